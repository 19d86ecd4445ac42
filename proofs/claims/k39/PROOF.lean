import PyProof.Rows.All
import Wide.All
import OpenK.AllK
import Wide.FinOn
import Lean
import PyProof.EqAt
import PyProof.EqKinds
import PyProof.TupleCall
import PySem.Challenge.RW_throwgate_k39_whole_steepest_flattest
set_option Elab.async false
set_option linter.all false
set_option maxRecDepth 100000
namespace L2
open PySem PySem.Spec PyProof.Rows
abbrev Key := Sum Int Str
def keyIs : Key → Value → Bool
  | .inl k, v => Value.isInt k v
  | .inr x, v => Value.isStrOf x v
def keyH (w : World) : Key → Int
  | .inl k => hashInt k
  | .inr x => hashStr w x
theorem keyIs_shape : ∀ {k : Key} {v : Value}, keyIs k v = true → (∃ i t, k = Sum.inl i ∧ v = Value.int i t) ∨ (∃ x t, k = Sum.inr x ∧ v = Value.str x t)
  | .inl i, v, h => by
    obtain ⟨t, e⟩ := Value.isInt_shape (k := i) (v := v) h
    exact .inl ⟨i, t, rfl, e⟩
  | .inr x, v, h => by
    obtain ⟨t, e⟩ := Value.isStrOf_shape (x := x) (v := v) h
    exact .inr ⟨x, t, rfl, e⟩
theorem keyIs_int (i : Int) (t : Tok) : keyIs (.inl i) (.int i t) = true := by simp [keyIs, Value.isInt]
theorem keyIs_str (x : Str) (t : Tok) : keyIs (.inr x) (.str x t) = true := by simp [keyIs, Value.isStrOf]
theorem key_ll (a b : Int) : decide ((Sum.inl a : Key) = Sum.inl b) = (a == b) := by
  by_cases e : a = b
  · subst e; simp
  · have h : ¬ (Sum.inl a : Key) = Sum.inl b := fun q => e (Sum.inl.inj q)
    rw [decide_eq_false h]
    exact (beq_eq_false_iff_ne.mpr e).symm
theorem key_rr (a b : Str) : decide ((Sum.inr a : Key) = Sum.inr b) = decide (a = b) := by
  by_cases e : a = b
  · subst e; simp
  · have h : ¬ (Sum.inr a : Key) = Sum.inr b := fun q => e (Sum.inr.inj q)
    rw [decide_eq_false h, decide_eq_false e]
theorem key_lr (a : Int) (b : Str) : decide ((Sum.inl a : Key) = Sum.inr b) = false := decide_eq_false (fun q => nomatch q)
theorem key_rl (a : Str) (b : Int) : decide ((Sum.inr a : Key) = Sum.inl b) = false := decide_eq_false (fun q => nomatch q)
def mixKind (prog : Program) (w : World) : PySem.KeyKind prog w Key where
  is := keyIs
  hash := keyH w
  inj := fun v a b ha hb => by
    rcases keyIs_shape ha with ⟨i, t, rfl, rfl⟩ | ⟨x, t, rfl, rfl⟩
    · rcases keyIs_shape hb with ⟨j, u, rfl, e⟩ | ⟨y, u, rfl, e⟩
      · injection e with e1 _; rw [e1]
      · exact nomatch e
    · rcases keyIs_shape hb with ⟨j, u, rfl, e⟩ | ⟨y, u, rfl, e⟩
      · exact nomatch e
      · injection e with e1 _; rw [e1]
  byValue := fun k v h => by
    rcases keyIs_shape h with ⟨i, t, rfl, rfl⟩ | ⟨x, t, rfl, rfl⟩ <;> rfl
  pyHash := fun hv h => by
    rcases keyIs_shape hv with ⟨i, t, rfl, rfl⟩ | ⟨x, t, rfl, rfl⟩
    · exact wpAny_pyHash_int h
    · exact wpAny_pyHash_str h
  eqBool := fun hu hv h => by
    rcases keyIs_shape hu with ⟨i, t, rfl, rfl⟩ | ⟨x, t, rfl, rfl⟩
    · rcases keyIs_shape hv with ⟨j, u, rfl, rfl⟩ | ⟨y, u, rfl, rfl⟩
      · rw [key_ll] at h; exact wpAny_eqBool_int h
      · rw [key_lr] at h; exact SeqAt.EqAt.int_str i t y u _ _ _ _ h
    · rcases keyIs_shape hv with ⟨j, u, rfl, rfl⟩ | ⟨y, u, rfl, rfl⟩
      · rw [key_rl] at h; exact SeqAt.EqAt.str_int x t j u _ _ _ _ h
      · rw [key_rr] at h; exact wpAny_eqBool_str h
  «strs» := fun k x t v h => by
    rcases keyIs_shape h with ⟨i, u, rfl, e⟩ | ⟨y, u, rfl, e⟩
    · exact nomatch e
    · injection e with e1 _
      subst e1
      cases v <;> rfl
theorem mixKind_int (prog : Program) (w : World) (i : Int) (t : Tok) : (mixKind prog w).is (.inl i) (.int i t) = true := keyIs_int i t
theorem mixKind_str (prog : Program) (w : World) (x : Str) (t : Tok) : (mixKind prog w).is (.inr x) (.str x t) = true := keyIs_str x t
end L2
namespace L2
open PySem PySem.Spec PyProof.Rows
inductive V where
  | non | bl (b : Bool) | int (i : Int) | str (x : Str) | byt (b : Array UInt8) | flt (b : UInt64) | ref (a : Addr) | ty (n : String)
  deriving DecidableEq
def RelV : V → Value → Prop
  | .non, u => u = Value.none
  | .bl b, u => u = Value.bool b
  | .int i, u => ∃ t, u = Value.int i t
  | .str x, u => ∃ t, u = Value.str x t
  | .byt b, u => ∃ t, u = Value.bytes b t
  | .flt b, u => ∃ t, u = Value.float b t
  | .ref a, u => u = Value.ref a
  | .ty n, u => u = Value.type n
abbrev Vals : List V → List Value → Prop := Paired RelV
theorem Vals.length {xs : List V} {us : List Value} (r : Vals xs us) : xs.length = us.length := Paired.length r
theorem Vals.get : ∀ {xs : List V} {us : List Value} {i : Nat} {x : V}, Vals xs us → xs[i]? = some x → ∃ u, us[i]? = some u ∧ RelV x u
  | _, _, _, _, .nil, e => by simp at e
  | _, _, 0, _, .cons r _, e => by simp at e; subst e; exact ⟨_, rfl, r⟩
  | _, _, i + 1, x, .cons _ t, e => by
    obtain ⟨u, h1, h2⟩ := Vals.get (i := i) (x := x) t (by simpa using e)
    exact ⟨u, by simpa using h1, h2⟩
theorem Vals.set {x : V} {u : Value} (r : RelV x u) : ∀ {xs : List V} {us : List Value} (i : Nat), Vals xs us → Vals (xs.set i x) (us.set i u)
  | _, _, _, .nil => .nil
  | _, _, 0, .cons _ t => .cons r t
  | _, _, i + 1, .cons q t => .cons q (Vals.set r i t)
theorem Vals.append : ∀ {xs ys : List V} {us ws : List Value}, Vals xs us → Vals ys ws → Vals (xs ++ ys) (us ++ ws)
  | _, _, _, _, .nil, s => s
  | _, _, _, _, .cons r t, s => .cons r (Vals.append t s)
theorem Vals.take : ∀ {xs : List V} {us : List Value} (n : Nat), Vals xs us → Vals (xs.take n) (us.take n)
  | _, _, 0, _ => .nil
  | _, _, _ + 1, .nil => .nil
  | _, _, n + 1, .cons r t => .cons r (Vals.take n t)
theorem Vals.drop : ∀ {xs : List V} {us : List Value} (n : Nat), Vals xs us → Vals (xs.drop n) (us.drop n)
  | _, _, 0, r => r
  | _, _, _ + 1, .nil => .nil
  | _, _, n + 1, .cons _ t => Vals.drop n t
def RelO : Option V → Option Value → Prop
  | some v, some u => RelV v u
  | none, none => True
  | _, _ => False
def KV {κ : Type} : List (κ × V) → List (κ × Value) → Prop := Paired fun (p : κ × V) (q : κ × Value) => p.1 = q.1 ∧ RelV p.2 q.2
def kV : Key → V
  | .inl i => .int i
  | .inr x => .str x
inductive HO where
  | lst (xs : List V)
  | tup (xs : List V)
  | dK (kvs : List (Key × V)) | dT (kvs : List (List Key × V))
  | set (S : Int → Bool) (n : Nat)
  | ins (C dx : Addr) (fs : List (Str × V))
  | own (x : Addr)
  | xd (fs : List (Str × V))
  | met (f x : Addr)
  | rng (lo hi : Int)
  | frz (o : Obj) (u : HO)
  | tbl (ps : Array Value)
  | ext (φ : Heap → Prop)
abbrev Hp := Addr → Option HO
def upd (H : Hp) (a : Addr) (o : HO) : Hp := fun b => if b = a then some o else H b
theorem upd_same {H : Hp} {a : Addr} {o : HO} : upd H a o a = some o := by unfold upd; rw [if_pos rfl]
theorem upd_ne {H : Hp} {a b : Addr} {o : HO} (h : b ≠ a) : upd H a o b = H b := by unfold upd; rw [if_neg h]
theorem ne_of {H : Hp} {a b : Addr} {o u : HO} (h : H a = some o) (h' : H b = some u) (d : o ≠ u) : a ≠ b := by
  intro e; subst e; rw [h] at h'; exact d (Option.some.inj h')
theorem ne_of_none {H : Hp} {a b : Addr} {o : HO} (h : H a = some o) (h' : H b = none) : a ≠ b := by
  intro e; subst e; rw [h] at h'; cases h'
section
variable (P : Program) (w : World)
def ObjOk (H : Hp) (h : Heap) (a : Addr) : HO → Prop
  | .lst xs => xs.length ≤ sizeLine ∧ ∃ (its : List Value) (n : Nat), Vals xs its ∧ h.get? a = some { cls := .type "list", data := .seq its.toArray n }
  | .tup xs => xs.length ≤ sizeLine ∧ ∃ its : List Value, Vals xs its ∧ IsTup h a its.toArray
  | .dK kvs => kvs.length ≤ sizeLine ∧ (a == sysModules) = false ∧ ∃ vs, KV kvs vs ∧ h.DictOf (mixKind P w) a vs
  | .dT kvs => kvs.length ≤ sizeLine ∧ (a == sysModules) = false ∧ ∃ xs : List (List Key × Addr × Value),
      Paired (fun (p : List Key × V) (q : List Key × Addr × Value) => p.1 = q.1 ∧ H q.2.1 = some (.tup (p.1.map kV)) ∧ RelV p.2 q.2.2) kvs xs ∧
      ∃ o es ep, h.get? a = some o ∧ o.ExactDict ∧ o.data = .dict es ep ∧ es.toList = xs.map (entryOfKey (tupleKind (mixKind P w))) ∧ (xs.map (·.1)).Nodup
  | .set S n => h.SetOf (intKind P w) a S n
  | .ins C dx fs => H dx = some (.own a) ∧ fs.length ≤ 1000 ∧ dx ≠ a ∧ h.get? a = some (PySem.W.instObj C dx) ∧
      ∃ mA, h.Ns1 dx mA ∧ (∀ f, RelO (fs.lookup f) (mA f)) ∧ PySem.Within mA (fs.map (·.1))
  | .own _ => ∃ o, h.get? a = some o
  | .xd fs => ∃ mA, h.Ns1 a mA ∧ ∀ f, RelO (fs.lookup f) (mA f)
  | .rng lo hi => ∃ t u v, h.get? a = some { cls := .type "range", data := .fields #[.int lo t, .int hi u, .int 1 v] }
  | .frz o u => h.get? a = some o ∧ ObjOk H h a u
  | .tbl ps => h.get? a = some { cls := .none, data := .fields ps }
  | .met f x => h.get? a = some (PySem.W.methodObj (.ref f) (.ref x))
  | .ext φ => φ h ∧ (∃ o, h.get? a = some o) ∧ ∀ h1 h2 : Heap, φ h1 → (∀ o, h1.get? a = some o → h2.get? a = some o) → φ h2
def HOk (H : Hp) (h : Heap) : Prop := ∀ a o, H a = some o → ObjOk P w H h a o
end
section
variable {P : Program} {w : World} {H H' : Hp} {h h' : Heap} {a : Addr} {o : HO}
theorem ObjOk.lt (x : ObjOk P w H h a o) : a < h.objs.size := by
  cases o with
  | lst xs => obtain ⟨_, _, _, _, e⟩ := x; exact Heap.lt_size e
  | tup xs => obtain ⟨_, _, _, p⟩ := x; exact p.lt
  | dK kvs => obtain ⟨_, _, _, _, o, _, _, e, _⟩ := x; exact Heap.lt_size e
  | dT kvs => obtain ⟨_, _, _, _, o, _, _, e, _⟩ := x; exact Heap.lt_size e
  | set S n => obtain ⟨o, _, _, _, e, _⟩ := x; exact Heap.lt_size e
  | ins C dx fs => obtain ⟨_, _, _, e, _⟩ := x; exact Heap.lt_size e
  | own y => obtain ⟨_, e⟩ := x; exact Heap.lt_size e
  | xd fs => obtain ⟨_, ⟨_, _, _, e, _⟩, _⟩ := x; exact Heap.lt_size e
  | rng lo hi => obtain ⟨_, _, _, e⟩ := x; exact Heap.lt_size e
  | frz ob u => obtain ⟨e, _⟩ := x; exact Heap.lt_size e
  | tbl ps => exact Heap.lt_size (show h.get? a = some _ from x)
  | met f y => exact Heap.lt_size (show h.get? a = some _ from x)
  | ext φ => obtain ⟨_, ⟨_, e⟩, _⟩ := x; exact Heap.lt_size e
theorem Paired.mapP {α β : Type} {F G : α → β → Prop} : ∀ {l₁ : List α} {l₂ : List β}, Paired F l₁ l₂ → (∀ a b, F a b → G a b) → Paired G l₁ l₂
  | _, _, .nil, _ => .nil
  | _, _, .cons r t, f => .cons (f _ _ r) (Paired.mapP t f)
theorem ObjOk.stay (x : ObjOk P w H h a o) (k : ∀ b u, (b = a ∨ H b = some (.own a)) → h.get? b = some u → h'.get? b = some u)
    (ho : ∀ b, H b = some (.own a) → H' b = some (.own a)) (ht : ∀ b xs, H b = some (.tup xs) → H' b = some (.tup xs)) : ObjOk P w H' h' a o := by
  induction o with
  | lst xs => obtain ⟨z, its, n, r, e⟩ := x; exact ⟨z, its, n, r, k _ _ (.inl rfl) e⟩
  | tup xs => obtain ⟨z, its, r, ob, e, c⟩ := x; exact ⟨z, its, r, ob, k _ _ (.inl rfl) e, c⟩
  | dK kvs => obtain ⟨z, y, vs, r, ob, es, ep, e, c⟩ := x; exact ⟨z, y, vs, r, ob, es, ep, k _ _ (.inl rfl) e, c⟩
  | dT kvs =>
    obtain ⟨z, y, xs, r, ob, es, ep, e, c⟩ := x
    exact ⟨z, y, xs, Paired.mapP r fun p q z => ⟨z.1, ht _ _ z.2.1, z.2.2⟩, ob, es, ep, k _ _ (.inl rfl) e, c⟩
  | set S n => obtain ⟨ob, es, ep, t, e, c⟩ := x; exact ⟨ob, es, ep, t, k _ _ (.inl rfl) e, c⟩
  | ins C dx fs =>
    obtain ⟨d, z, ne, e, mA, ⟨od, es, ep, e2, c⟩, r⟩ := x
    exact ⟨ho _ d, z, ne, k _ _ (.inl rfl) e, mA, ⟨od, es, ep, k _ _ (.inr d) e2, c⟩, r⟩
  | own y => obtain ⟨ob, e⟩ := x; exact ⟨ob, k _ _ (.inl rfl) e⟩
  | xd fs => obtain ⟨mA, ⟨od, es, ep, e, c⟩, r⟩ := x; exact ⟨mA, ⟨od, es, ep, k _ _ (.inl rfl) e, c⟩, r⟩
  | rng lo hi => obtain ⟨t, u, v, e⟩ := x; exact ⟨t, u, v, k _ _ (.inl rfl) e⟩
  | frz ob u ih => obtain ⟨e, q⟩ := x; exact ⟨k _ _ (.inl rfl) e, ih q⟩
  | tbl ps =>
    have e : h.get? a = some { cls := .none, data := .fields ps } := x
    show h'.get? a = some { cls := .none, data := .fields ps }
    exact k a _ (.inl rfl) e
  | met f y =>
    have e : h.get? a = some (PySem.W.methodObj (.ref f) (.ref y)) := x
    show h'.get? a = some (PySem.W.methodObj (.ref f) (.ref y))
    exact k a _ (.inl rfl) e
  | ext φ => obtain ⟨p, ⟨o, e⟩, st⟩ := x; exact ⟨st _ _ p fun o q => k _ _ (.inl rfl) q, ⟨o, k _ _ (.inl rfl) e⟩, st⟩
theorem HOk.lt (x : HOk P w H h) (e : H a = some o) : a < h.objs.size := (x a o e).lt
theorem HOk.fresh (x : HOk P w H h) (e : h.objs.size ≤ a) : H a = none := by
  cases q : H a with
  | none => rfl
  | some u => exact absurd (Nat.lt_of_lt_of_le (x.lt q) e) (Nat.lt_irrefl _)
theorem HOk.kept (x : HOk P w H h) (k : ∀ b u, h.get? b = some u → h'.get? b = some u) : HOk P w H h' := fun a o e =>
  (x a o e).stay (fun b u _ q => k b u q) (fun _ q => q) fun _ _ q => q
theorem HOk.laid (x : HOk P w H h) (k : ∀ b u, h.get? b = some u → h'.get? b = some u) (hp : h.objs.size ≤ a) (new : ObjOk P w (upd H a o) h' a o) : HOk P w (upd H a o) h' := fun b u e => by
  have hn := x.fresh hp
  by_cases hb : b = a
  · subst hb; rw [upd_same] at e; cases e; exact new
  · rw [upd_ne hb] at e
    exact (x b u e).stay (fun c v _ q => k c v q) (fun c q => by rw [upd_ne (ne_of_none q hn)]; exact q) fun c xs q => by rw [upd_ne (ne_of_none q hn)]; exact q
end
def Rd (H : Hp) (a : Addr) (u : HO) : Prop := H a = some u ∨ ∃ o, H a = some (.frz o u)
theorem Rd.ok {P : Program} {w : World} {H : Hp} {h : Heap} {a : Addr} {u : HO} (r : Rd H a u) (x : HOk P w H h) : ObjOk P w H h a u := by
  rcases r with r | ⟨o, r⟩
  · exact x a u r
  · obtain ⟨_, q⟩ := x a _ r
    exact q
def Mut : Option HO → Prop
  | some (.lst _) => True
  | some (.dK _) => True
  | some (.dT _) => True
  | some (.set _ _) => True
  | some (.ins _ _ _) => True
  | some (.ext _) => True
  | _ => False
section
variable {P : Program} {w : World} {H : Hp} {h h' : Heap} {x e : Addr} {o' : HO}
theorem HOk.write (ok : HOk P w H h) (mu : Mut (H x)) (he : e = x ∨ H e = some (.own x)) (k : ∀ b u, b ≠ e → h.get? b = some u → h'.get? b = some u) (heo : ∃ u, h'.get? e = some u)
    (new : ObjOk P w (upd H x o') h' x o') : HOk P w (upd H x o') h' := fun b u q => by
  have nown : ∀ c y, H c = some (.own y) → c ≠ x := fun c y r z => by subst z; rw [r] at mu; exact mu
  have ntup : ∀ c xs, H c = some (.tup xs) → c ≠ x := fun c xs r z => by subst z; rw [r] at mu; exact mu
  by_cases hb : b = x
  · subst hb; rw [upd_same] at q; cases q; exact new
  · rw [upd_ne hb] at q
    by_cases hbe : b = e
    · have q' : H b = some (.own x) := by
        rcases he with z | z
        · exact absurd (hbe.trans z) hb
        · rw [hbe]; exact z
      rw [q] at q'; cases q'
      obtain ⟨v, hv⟩ := heo
      exact ⟨v, by rw [hbe]; exact hv⟩
    · refine (ok b u q).stay (fun c v hc r => k c v ?_ r) (fun c r => by rw [upd_ne (nown c b r)]; exact r) fun c xs r => by rw [upd_ne (ntup c xs r)]; exact r
      rcases hc with rfl | hc
      · exact hbe
      · rintro rfl
        rcases he with z | z
        · exact nown c b hc z
        · rw [hc] at z; cases z; exact hb rfl
end
structure Un (fs ex : List Addr) (H H' : Hp) (h h' : Heap) : Prop where
  keep : ∀ b o, h.get? b = some o → H b = none → b ∉ fs → b ∉ ex → h'.get? b = some o
  slot : ∀ b o, h.get? b = some o → H b = none → b ∈ fs → b ∉ ex → ∃ sl, h'.get? b = some { o with slots := sl }
  free : ∀ b o, h.get? b = some o → H b = none → b ∉ ex → H' b = none
  there : ∀ b o, h.get? b = some o → b ∉ ex → ∃ o', h'.get? b = some o'
  tups : ∀ b xs, H b = some (.tup xs) → H' b = some (.tup xs)
  frzs : ∀ b o u, H b = some (.frz o u) → H' b = some (.frz o u)
  tbls : ∀ b ps, H b = some (.tbl ps) → ∃ more, H' b = some (.tbl (ps ++ more))
section
variable {fs fs' ex ex' : List Addr} {H H1 H2 : Hp} {h h1 h2 h' : Heap} {a x e : Addr} {o : HO}
theorem Un.any (u : Un fs ex H H1 h h1) {b : Addr} {ob : Obj} (q : h.get? b = some ob) (n : H b = none) (hx : b ∉ ex) : ∃ sl, h1.get? b = some { ob with slots := sl } := by
  by_cases hb : b ∈ fs
  · exact u.slot b ob q n hb hx
  · exact ⟨ob.slots, u.keep b ob q n hb hx⟩
theorem Un.kept (k : ∀ b u, h.get? b = some u → h'.get? b = some u) : Un fs ex H H h h' :=
  ⟨fun b ob q _ _ _ => k b ob q, fun b ob q _ _ _ => ⟨ob.slots, k b ob q⟩, fun _ _ _ n _ => n, fun b ob q _ => ⟨ob, k b ob q⟩, fun _ _ q => q, fun _ _ _ q => q, fun _ ps q => ⟨#[], by rw [q]; simp⟩⟩
theorem Un.refl : Un fs ex H H h h := Un.kept fun _ _ q => q
theorem Un.laid (k : ∀ b u, h.get? b = some u → h'.get? b = some u) (hp : h.objs.size ≤ a) (hn : H a = none) : Un fs ex H (upd H a o) h h' where
  keep := fun b u q _ _ _ => k b u q
  slot := fun b u q _ _ _ => ⟨u.slots, k b u q⟩
  free := fun b u q n _ => by rw [upd_ne (Nat.ne_of_lt (Nat.lt_of_lt_of_le (Heap.lt_size q) hp))]; exact n
  there := fun b u q _ => ⟨u, k b u q⟩
  tups := fun b xs q => by rw [upd_ne (ne_of_none q hn)]; exact q
  frzs := fun b u xs q => by rw [upd_ne (ne_of_none q hn)]; exact q
  tbls := fun b ps q => ⟨#[], by rw [upd_ne (ne_of_none q hn), q]; simp⟩
theorem Un.write (mu : Mut (H x)) (he : e = x ∨ H e = some (.own x)) (k : ∀ b u, b ≠ e → h.get? b = some u → h'.get? b = some u) (heo : ∃ u, h'.get? e = some u) : Un fs ex H (upd H x o) h h' := by
  have hx : ∀ b, H b = none → b ≠ x := fun b n z => by subst z; rw [n] at mu; exact mu
  have hb : ∀ b, H b = none → b ≠ e := fun b n z => by
    subst z
    rcases he with r | r
    · exact hx b n r
    · rw [n] at r; cases r
  have hm : ∀ b u, H b = some u → ¬ Mut (some u) → b ≠ x := fun b u q nm z => by subst z; rw [q] at mu; exact nm mu
  refine ⟨fun b u q n _ _ => k b u (hb b n) q, fun b u q n _ _ => ⟨u.slots, k b u (hb b n) q⟩, fun b u q n _ => by rw [upd_ne (hx b n)]; exact n, fun b u q _ => ?_,
    fun b xs q => by rw [upd_ne (hm b _ q fun z => z)]; exact q, fun b u xs q => by rw [upd_ne (hm b _ q fun z => z)]; exact q, fun b ps q => ⟨#[], by rw [upd_ne (hm b _ q fun z => z), q]; simp⟩⟩
  by_cases hbe : b = e
  · subst hbe; exact heo
  · exact ⟨u, k b u hbe q⟩
end
def trk (h : Heap) (H : Hp) : List Addr := (List.range h.objs.size).filter fun a => (H a).isSome
def hidT (h : Heap) (H : Hp) : Heap := PySem.W.hideAll h (trk h H)
theorem hidT_size (h : Heap) (H : Hp) : (hidT h H).objs.size = h.objs.size := PySem.W.hideAll_size _ _
theorem hidT_get {h : Heap} {H : Hp} {b : Addr} {o : Obj} (e : h.get? b = some o) (n : H b = none) : (hidT h H).get? b = some o :=
  PySem.W.hideAll_get _ e fun hm => by
    have q : (H b).isSome = true := (List.mem_filter.mp hm).2
    rw [n] at q; simp at q
theorem of_hidT {h : Heap} {H : Hp} {b : Addr} {o : Obj} (e : (hidT h H).get? b = some o) : h.get? b = some o ∧ H b = none := by
  have e' : h.get? b = some o := PySem.W.of_hideAll (trk h H) e
  refine ⟨e', ?_⟩
  cases q : H b with
  | none => rfl
  | some x =>
    have hm : b ∈ trk h H := List.mem_filter.mpr ⟨List.mem_range.mpr (Heap.lt_size e'), by simp [q]⟩
    have z : (hidT h H).get? b = none := PySem.W.hideAll_none (trk h H) hm
    rw [z] at e; cases e
end L2
namespace L2
open PySem PySem.Spec PyProof.Rows
structure Mod (K : PySem.W.Frag) (mg : Str → Option Value) (base : Heap) : Prop where
  kin : K.In base
  glob : base.Ns mainGlobals mg
  blt : ∃ mb, base.Ns builtinsNs mb ∧ ∀ x : Str, x ≠ "__name__" → mb x = bootBuiltins x
  nolimit : base.NoLimit
structure Cx where
  prog : Program
  w : World
  K : PySem.W.Frag
  mg : Str → Option Value
  base : Heap
  A : Around
  N : List Str
  s₀ : Shared
  H₀ : Hp
  env : Env
  outer : List Env
  stack : List Env
  ex : List Addr
  fn : Str → Bool
  calm : Bool
  pn : List (Addr × Obj)
  xe : Value → Shared → Prop
def frs (l : List Env) : List Addr := l.filterMap (·.frame)
abbrev Cx.fs (X : Cx) : List Addr := frs X.outer
def Vis (sc : Scope) (x : Str) : Prop := sc.names.lookup x = some .local ∨ sc.names.lookup x = some .cell ∨ sc.names.lookup x = some .free
def Loc (sc : Scope) (x : Str) : Prop := sc.names.lookup x = some .local ∨ sc.names.lookup x = some .cell
def Look (env : Env) (h : Heap) (m : Str → Option Value) (x : Str) (u : Value) : Prop :=
  (env.kindOf x = some .local ∧ m x = some u) ∨ ((env.kindOf x = some .cell ∨ env.kindOf x = some .free) ∧ ∃ c, env.cells.lookup x = some c ∧ h.IsCell c (some u))
structure Cx.Ok (X : Cx) : Prop where
  mod : Mod X.K X.mg X.base
  kind : X.env.scope.kind = .function
  glob : X.env.globals = mainGlobals
  blt : X.env.builtins = builtinsNs
  above : X.s₀.heap.objs.size ≤ X.env.locals
  inj : ∀ x y c, X.env.cells.lookup x = some c → X.env.cells.lookup y = some c → x = y
  has : ∀ x, (X.env.kindOf x = some .cell ∨ X.env.kindOf x = some .free) → ∃ c, X.env.cells.lookup x = some c
  cab : ∀ x c, X.fn x = true → X.env.cells.lookup x = some c → X.s₀.heap.objs.size ≤ c
  hd : X.calm = true → X.A.handled = none
  frames : X.A.frames = some X.stack
  stk : X.stack = X.outer ∨ (X.stack = X.env :: X.outer ∧ X.env.frame = some X.env.locals)
  exf : ∀ b ∈ X.ex, b ≠ X.env.locals ∧ ∀ x c, X.env.cells.lookup x = some c → c ≠ b
  bs : ∀ b o, X.base.get? b = some o → X.s₀.heap.get? b = some o ∧ X.H₀ b = none
  bsz : X.base.objs.size ≤ X.s₀.heap.objs.size
  noex : ∀ b o, X.base.get? b = some o → b ∉ X.ex
  exfs : ∀ b ∈ X.ex, b ∉ X.fs
  funs : X.s₀.heap.FunFrames X.base X.outer
  frf : ∀ b ∈ X.fs, X.H₀ b = none
structure Inv (X : Cx) (pins : List (Addr × Obj)) (σ : List (Option V)) (H : Hp) (s : Shared) : Prop where
  ok : X.Ok
  os : s.os = X.s₀.os
  bare : AllBare s.gens
  base : Un X.fs X.ex X.H₀ H X.s₀.heap s.heap
  loc : ∃ m, s.heap.Ns X.env.locals m ∧ ∀ (i : Nat) (x : Str) (v : V), X.N[i]? = some x → σ[i]? = some (some v) → Vis X.env.scope x → ∃ u, RelV v u ∧ Look X.env s.heap m x u
  cell : ∀ x c, X.env.cells.lookup x = some c → ∃ v, s.heap.IsCell c v
  free : H X.env.locals = none
  freeC : ∀ x c, X.env.cells.lookup x = some c → H c = none
  pin : ∀ p ∈ X.pn ++ pins, s.heap.get? p.1 = some p.2 ∧ H p.1 = none ∧ p.1 ≠ X.env.locals ∧ p.1 ∉ X.fs ∧ ∀ v, p.2.data ≠ .cell v
  hok : HOk X.prog X.w H s.heap
  len : σ.length = X.N.length
section
variable {X : Cx} {pins : List (Addr × Obj)} {σ : List (Option V)} {H H' : Hp} {s : Shared} {h' : Heap}
theorem Cx.Ok.nofr (ok : X.Ok) {b : Addr} {o : Obj} (e : X.base.get? b = some o) : b ∉ X.fs := fun hb => by
  have := (ok.funs.mem hb).1
  rw [e] at this; cases this
theorem Inv.bs (I : Inv X pins σ H s) : ∀ b o, X.base.get? b = some o → s.heap.get? b = some o ∧ H b = none := fun b o e =>
  ⟨I.base.keep b o (I.ok.bs b o e).1 (I.ok.bs b o e).2 (I.ok.nofr e) (I.ok.noex b o e), I.base.free b o (I.ok.bs b o e).1 (I.ok.bs b o e).2 (I.ok.noex b o e)⟩
theorem Inv.bk (I : Inv X pins σ H s) : ∀ b o, X.base.get? b = some o → s.heap.get? b = some o := fun b o e => (I.bs b o e).1
theorem Inv.mod (I : Inv X pins σ H s) : Mod X.K X.mg X.base := I.ok.mod
theorem Inv.kIn (I : Inv X pins σ H s) : X.K.In s.heap := I.ok.mod.kin.keeps I.bk
theorem Inv.lt (I : Inv X pins σ H s) : X.env.locals < s.heap.objs.size := let ⟨_, hn, _⟩ := I.loc; hn.lt
theorem Inv.sz (I : Inv X pins σ H s) : X.s₀.heap.objs.size ≤ s.heap.objs.size := Nat.le_trans I.ok.above (Nat.le_of_lt I.lt)
theorem Inv.nofs (I : Inv X pins σ H s) {a : Addr} (h : s.heap.objs.size ≤ a) : a ∉ X.fs := fun hb => by
  obtain ⟨_, o, ho, _⟩ := I.ok.funs.mem hb
  exact absurd (Nat.lt_of_lt_of_le (Heap.lt_size ho) (Nat.le_trans I.sz h)) (Nat.lt_irrefl _)
theorem Inv.cne (I : Inv X pins σ H s) : ∀ x c, X.env.cells.lookup x = some c → c ≠ X.env.locals := fun x c e z => by
  obtain ⟨v, o, ho, hd⟩ := I.cell x c e
  obtain ⟨m, ⟨o', es, ep, ho', hd', _⟩, _⟩ := I.loc
  rw [z, ho'] at ho; cases ho; rw [hd'] at hd; cases hd
theorem Inv.funs (I : Inv X pins σ H s) : s.heap.FunFrames X.base X.outer := by
  have all : ∀ (l : List Env), (∀ b ∈ frs l, b ∈ X.fs) → X.s₀.heap.FunFrames X.base l → s.heap.FunFrames X.base l := by
    intro l
    induction l with
    | nil => intro _ _; trivial
    | cons env r ih =>
      intro hs hl
      obtain ⟨hk, ⟨L, o, hf, hn, ho, hd⟩, hr⟩ := hl
      have hL : L ∈ X.fs := hs L (by unfold frs; rw [List.filterMap_cons, hf]; exact List.mem_cons_self)
      obtain ⟨sl, e⟩ := I.base.slot L o ho (I.ok.frf L hL) hL fun z => I.ok.exfs L z hL
      exact ⟨hk, ⟨L, _, hf, hn, e, hd⟩, ih (fun b hb => hs b (by unfold frs; rw [List.filterMap_cons, hf]; exact List.mem_cons_of_mem _ hb)) hr⟩
  exact all X.outer (fun _ hb => hb) I.ok.funs
theorem Inv.stack (I : Inv X pins σ H s) : s.heap.FunFrames X.base X.stack := by
  rcases I.ok.stk with e | ⟨e, hf⟩
  · rw [e]; exact I.funs
  · rw [e]
    obtain ⟨m, hn, _⟩ := I.loc
    refine .cons (by rw [I.ok.kind]; decide) hf hn ?_ I.funs
    exact Heap.get?_none_of_le (Nat.le_trans I.ok.bsz I.ok.above)
theorem Inv.stkSub (I : Inv X pins σ H s) : ∀ b ∈ frs X.stack, b ∈ X.env.locals :: X.fs := fun b hb => by
  rcases I.ok.stk with e | ⟨e, hf⟩
  · rw [e] at hb; exact List.mem_cons_of_mem _ hb
  · rw [e] at hb
    unfold frs at hb
    rw [List.filterMap_cons, hf] at hb
    exact hb
theorem Inv.stkFree (I : Inv X pins σ H s) : ∀ b ∈ frs X.stack, H b = none := fun b hb => by
  rcases List.mem_cons.mp (I.stkSub b hb) with e | hb
  · rw [e]; exact I.free
  · obtain ⟨_, o, ho, _⟩ := I.ok.funs.mem hb
    exact I.base.free b o ho (I.ok.frf b hb) fun z => I.ok.exfs b z hb
theorem Inv.step {g' : Array GenState} {t' : Nat} {d' : Drawn} {ch : List Addr} (I : Inv X pins σ H s)
    (hch : ∀ b ∈ ch, (b ∈ X.ex ∨ X.s₀.heap.objs.size ≤ b) ∧ b ≠ X.env.locals ∧ (∀ x c, X.env.cells.lookup x = some c → c ≠ b) ∧ ∀ p ∈ X.pn ++ pins, p.1 ≠ b)
    (keep : ∀ b o, b ≠ X.env.locals → b ∉ X.fs → b ∉ ch → s.heap.get? b = some o → H b = none → h'.get? b = some o)
    (slot : ∀ b o, b ≠ X.env.locals → b ∈ X.fs → b ∉ ch → s.heap.get? b = some o → H b = none → ∃ sl, h'.get? b = some { o with slots := sl }) (free : ∀ b o, b ∉ ch → s.heap.get? b = some o → H b = none → H' b = none)
    (there : ∀ b o, b ∉ ch → s.heap.get? b = some o → ∃ o', h'.get? b = some o')
    (tups : ∀ b xs, H b = some (.tup xs) → H' b = some (.tup xs)) (frzs : ∀ b o u, H b = some (.frz o u) → H' b = some (.frz o u)) (tbls : ∀ b ps, H b = some (.tbl ps) → ∃ more, H' b = some (.tbl (ps ++ more)))
    (ns : ∀ m, s.heap.Ns X.env.locals m → h'.Ns X.env.locals m) (hok : HOk X.prog X.w H' h') (hg : AllBare g') :
    Inv X pins σ H' { s with heap := h', gens := g', drawn := d', toks := t' } := by
  have neL : ∀ b o, X.s₀.heap.get? b = some o → b ≠ X.env.locals := fun b o e => Nat.ne_of_lt (Nat.lt_of_lt_of_le (Heap.lt_size e) I.ok.above)
  have neC : ∀ b o, X.s₀.heap.get? b = some o → b ∉ X.ex → b ∉ ch := fun b o e hx hb => by
    rcases (hch b hb).1 with z | z
    · exact hx z
    · exact absurd (Nat.lt_of_lt_of_le (Heap.lt_size e) z) (Nat.lt_irrefl _)
  have cellK : ∀ x c, X.env.cells.lookup x = some c → ∀ v, s.heap.IsCell c v → h'.IsCell c v := fun x c e v ⟨o, ho, hd⟩ => by
    have nch : c ∉ ch := fun z => (hch c z).2.2.1 x c e rfl
    by_cases hc : c ∈ X.fs
    · obtain ⟨sl, q⟩ := slot c o (I.cne x c e) hc nch ho (I.freeC x c e)
      exact ⟨_, q, hd⟩
    · exact ⟨o, keep c o (I.cne x c e) hc nch ho (I.freeC x c e), hd⟩
  refine ⟨I.ok, I.os, hg, ⟨fun b o e n hb hx => ?_, fun b o e n hb hx => ?_, fun b o e n hx => ?_, fun b o e hx => ?_, fun b xs e => tups b xs (I.base.tups b xs e), fun b o xs e => frzs b o xs (I.base.frzs b o xs e), fun b ps e => ?_⟩, ?_, fun x c e => ?_, ?_, fun x c e => ?_, fun p hp => ?_, hok, I.len⟩
  · exact keep b o (neL b o e) hb (neC b o e hx) (I.base.keep b o e n hb hx) (I.base.free b o e n hx)
  · obtain ⟨sl, e1⟩ := I.base.slot b o e n hb hx
    obtain ⟨sl', e2⟩ := slot b _ (neL b o e) hb (neC b o e hx) e1 (I.base.free b o e n hx)
    exact ⟨sl', e2⟩
  · obtain ⟨o', e1⟩ := I.base.there b o e hx
    exact free b o' (neC b o e hx) e1 (I.base.free b o e n hx)
  · obtain ⟨o', e1⟩ := I.base.there b o e hx
    exact there b o' (neC b o e hx) e1
  · obtain ⟨m1, e1⟩ := I.base.tbls b ps e
    obtain ⟨m2, e2⟩ := tbls b _ e1
    exact ⟨m1 ++ m2, by rw [e2, Array.append_assoc]⟩
  · obtain ⟨m, hn, hl⟩ := I.loc
    refine ⟨m, ns m hn, fun i x v e1 e2 e3 => ?_⟩
    obtain ⟨u, r, l⟩ := hl i x v e1 e2 e3
    refine ⟨u, r, ?_⟩
    rcases l with l | ⟨k, c, e, z⟩
    · exact .inl l
    · exact .inr ⟨k, c, e, cellK x c e _ z⟩
  · obtain ⟨v, z⟩ := I.cell x c e
    exact ⟨v, cellK x c e v z⟩
  · obtain ⟨m, ⟨o, _, _, ho, _⟩, _⟩ := I.loc
    exact free _ o (fun z => (hch _ z).2.1 rfl) ho I.free
  · obtain ⟨v, o, ho, hd⟩ := I.cell x c e
    exact free c o (fun z => (hch c z).2.2.1 x c e rfl) ho (I.freeC x c e)
  · obtain ⟨e, n, ne, nf, d⟩ := I.pin p hp
    have nch : p.1 ∉ ch := fun z => (hch p.1 z).2.2.2 p hp rfl
    exact ⟨keep p.1 p.2 ne nf nch e n, free p.1 p.2 nch e n, ne, nf, d⟩
theorem Inv.un {t' : Nat} (I : Inv X pins σ H s) (u : Un X.fs [] H H' s.heap h') (hok : HOk X.prog X.w H' h') : Inv X pins σ H' { s with heap := h', toks := t' } := by
  obtain ⟨m, ⟨o, es, ep, ho, r⟩, _⟩ := id I.loc
  obtain ⟨sl, hL⟩ := u.any ho I.free (by simp)
  exact I.step (g' := s.gens) (d' := s.drawn) (ch := []) (fun _ z => nomatch z) (fun b o _ hb _ e n => u.keep b o e n hb (by simp)) (fun b o _ hb _ e n => u.slot b o e n hb (by simp)) (fun b o _ e n => u.free b o e n (by simp)) (fun b o _ e => u.there b o e (by simp)) u.tups u.frzs u.tbls (fun m' hm => by
    obtain ⟨o', es', ep', ho', r'⟩ := hm
    rw [ho] at ho'; cases ho'
    exact ⟨_, es', ep', hL, r'⟩) hok I.bare
theorem Inv.call {g' : Array GenState} {t' : Nat} {d' : Drawn} {ch : List Addr} (I : Inv X pins σ H s) (u : Un (frs X.stack) ch H H' s.heap h') (hok : HOk X.prog X.w H' h') (hg : AllBare g')
    (hch : ∀ b ∈ ch, (b ∈ X.ex ∨ X.s₀.heap.objs.size ≤ b) ∧ b ≠ X.env.locals ∧ (∀ x c, X.env.cells.lookup x = some c → c ≠ b) ∧ ∀ p ∈ X.pn ++ pins, p.1 ≠ b) :
    Inv X pins σ H' { s with heap := h', gens := g', drawn := d', toks := t' } := by
  obtain ⟨m, ⟨o, es, ep, ho, r⟩, _⟩ := id I.loc
  obtain ⟨sl, hL⟩ := u.any ho I.free fun z => (hch _ z).2.1 rfl
  exact I.step (ch := ch) hch (fun b o hL hb hc e n => u.keep b o e n (fun z => (List.mem_cons.mp (I.stkSub b z)).elim hL hb) hc) (fun b o _ _ hc e n => u.any e n hc) (fun b o hc e n => u.free b o e n hc) (fun b o hc e => u.there b o e hc) u.tups u.frzs u.tbls (fun m' hm => by
    obtain ⟨o', es', ep', ho', r'⟩ := hm
    rw [ho] at ho'; cases ho'
    exact ⟨_, es', ep', hL, r'⟩) hok hg
theorem Inv.turned {t' : Nat} {it : Addr} (I : Inv X pins σ H s) (k : ∀ b o, b ≠ it → s.heap.get? b = some o → h'.get? b = some o) (hn : H it = none) (hL : it ≠ X.env.locals)
    (h1 : it ∈ X.ex ∨ X.s₀.heap.objs.size ≤ it) (h2 : ∀ x c, X.env.cells.lookup x = some c → c ≠ it) (h3 : ∀ p ∈ X.pn ++ pins, p.1 ≠ it) : Inv X pins σ H { s with heap := h', toks := t' } := by
  have nit : ∀ b u, H b = some u → b ≠ it := fun b u e z => by rw [z, hn] at e; cases e
  refine I.step (g' := s.gens) (d' := s.drawn) (ch := [it]) (fun b hb => ?_) (fun b o _ _ hc e _ => k b o (fun z => hc (by simp [z])) e) (fun b o _ _ hc e _ => ⟨o.slots, k b o (fun z => hc (by simp [z])) e⟩) (fun _ _ _ _ n => n)
    (fun b o hc e => ⟨o, k b o (fun z => hc (by simp [z])) e⟩) (fun _ _ e => e) (fun _ _ _ e => e) (fun b ps e => ⟨#[], by rw [e]; simp⟩) (fun m hm => ?_) (fun b u e => ?_) I.bare
  · have e : b = it := by simpa using hb
    subst e
    exact ⟨h1, hL, h2, h3⟩
  · obtain ⟨o, es, ep, ho, r⟩ := hm
    exact ⟨o, es, ep, k _ o (Ne.symm hL) ho, r⟩
  · refine (I.hok b u e).stay (fun c v hc q => k c v ?_ q) (fun _ q => q) fun _ _ q => q
    rcases hc with z | z
    · rw [z]; exact nit b u e
    · exact nit c _ z
theorem Inv.tok (I : Inv X pins σ H s) (t : Nat) : Inv X pins σ H { s with toks := t } := I.un (h' := s.heap) (t' := t) Un.refl I.hok
theorem Inv.kept {t' : Nat} (I : Inv X pins σ H s) (k : ∀ b u, s.heap.get? b = some u → h'.get? b = some u) : Inv X pins σ H { s with heap := h', toks := t' } := I.un (Un.kept k) (I.hok.kept k)
theorem Inv.laid {a : Addr} {o : HO} {t' : Nat} (I : Inv X pins σ H s) (k : ∀ b u, s.heap.get? b = some u → h'.get? b = some u) (hp : s.heap.objs.size ≤ a) (new : ObjOk X.prog X.w (upd H a o) h' a o) :
    Inv X pins σ (upd H a o) { s with heap := h', toks := t' } := I.un (Un.laid k hp (I.hok.fresh hp)) (I.hok.laid k hp new)
theorem Inv.write {x e : Addr} {o : HO} {t' : Nat} (I : Inv X pins σ H s) (mu : Mut (H x)) (he : e = x ∨ H e = some (.own x)) (k : ∀ b u, b ≠ e → s.heap.get? b = some u → h'.get? b = some u) (heo : ∃ u, h'.get? e = some u)
    (new : ObjOk X.prog X.w (upd H x o) h' x o) : Inv X pins σ (upd H x o) { s with heap := h', toks := t' } := I.un (Un.write mu he k heo) (I.hok.write mu he k heo new)
theorem Inv.pins_of {pins' : List (Addr × Obj)} (I : Inv X pins σ H s) (h : ∀ p ∈ pins', s.heap.get? p.1 = some p.2 ∧ H p.1 = none ∧ p.1 ≠ X.env.locals ∧ p.1 ∉ X.fs ∧ ∀ v, p.2.data ≠ .cell v) : Inv X pins' σ H s :=
  ⟨I.ok, I.os, I.bare, I.base, I.loc, I.cell, I.free, I.freeC, fun p hp => (List.mem_append.mp hp).elim (fun z => I.pin p (List.mem_append_left _ z)) (h p), I.hok, I.len⟩
theorem nodup_ix {N : List Str} (hN : N.Nodup) {i j : Nat} {x : Str} (a : N[i]? = some x) (b : N[j]? = some x) : i = j := by
  obtain ⟨h1, e1⟩ := List.getElem?_eq_some_iff.mp a
  obtain ⟨h2, e2⟩ := List.getElem?_eq_some_iff.mp b
  exact (List.getElem_inj hN).mp (e1.trans e2.symm)
theorem store_ok2 {M : Model} {A : Around} {E : Value → Shared → Prop} {i : Nat} {x : Str} {v : V} {u : Value} {Q : Unit → Shared → Prop} (I : Inv X pins σ H s) (hN : X.N.Nodup) (hi : X.N[i]? = some x) (hx : Loc X.env.scope x) (r : RelV v u)
    (h : ∀ s', Inv X pins (σ.set i (some v)) H s' → (∃ a, Heap.SameBut a s.heap s'.heap ∧ (a = X.env.locals ∨ X.env.cells.lookup x = some a)) → Q () s') (hf : X.fn x = true ∨ X.env.scope.names.lookup x = some .local := by first | exact .inl rfl | exact .inr rfl | assumption) : wpAny M A (storeName X.env x u) Q E s := by
  obtain ⟨m, hn, hl⟩ := id I.loc
  have hcls : (X.env.scope.kind == .class || (X.env.scope.kind == .module && X.env.locals != X.env.globals)) = false := by rw [I.ok.kind]; rfl
  have hiσ : i < σ.length := by rw [I.len]; exact (List.getElem?_eq_some_iff.mp hi).1
  have cne := I.cne
  have tracked : ∀ {a : Addr} {h' : Heap}, (∃ o, s.heap.get? a = some o ∧ H a = none) → Heap.SameBut a s.heap h' → HOk X.prog X.w H h' := fun {a h'} ha hs b ob e => by
    obtain ⟨_, _, hfree⟩ := ha
    refine (I.hok b ob e).stay (fun c w' hc q => (hs.2 c ?_).trans q) (fun _ q => q) fun _ _ q => q
    rintro rfl
    rcases hc with rfl | hc
    · rw [hfree] at e; cases e
    · rw [hfree] at hc; cases hc
  rcases hx with hk | hk
  · refine wpAny_storeName_local hk hn (fun h' hn' hs => ?_) hcls
    obtain ⟨oL, _, _, hoL, _⟩ := id hn
    refine h _ ⟨I.ok, I.os, I.bare, ⟨fun b o e n hb hx => ?_, fun b o e n hb hx => ?_, I.base.free, fun b o e hx => ?_, I.base.tups, I.base.frzs, I.base.tbls⟩, ⟨_, hn', fun j y v' e1 e2 e3 => ?_⟩, fun y c e => ?_, I.free, I.freeC, fun p hp => ?_, tracked ⟨oL, hoL, I.free⟩ hs, by simpa using I.len⟩ ⟨_, hs, .inl rfl⟩
    · exact (hs.2 b (Nat.ne_of_lt (Nat.lt_of_lt_of_le (Heap.lt_size e) I.ok.above))).trans (I.base.keep b o e n hb hx)
    · obtain ⟨sl, e1⟩ := I.base.slot b o e n hb hx
      exact ⟨sl, (hs.2 b (Nat.ne_of_lt (Nat.lt_of_lt_of_le (Heap.lt_size e) I.ok.above))).trans e1⟩
    · obtain ⟨o', e1⟩ := I.base.there b o e hx
      exact ⟨o', (hs.2 b (Nat.ne_of_lt (Nat.lt_of_lt_of_le (Heap.lt_size e) I.ok.above))).trans e1⟩
    · by_cases hj : j = i
      · subst hj
        rw [hi] at e1; cases e1
        rw [List.getElem?_set_self hiσ] at e2
        cases e2
        exact ⟨u, r, .inl ⟨hk, by simp⟩⟩
      · rw [List.getElem?_set_ne (Ne.symm hj)] at e2
        obtain ⟨u', r', q⟩ := hl j y v' e1 e2 e3
        refine ⟨u', r', ?_⟩
        rcases q with ⟨k, e⟩ | ⟨k, c, e, z⟩
        · refine .inl ⟨k, ?_⟩
          have : y ≠ x := fun e => hj (nodup_ix hN e1 (e ▸ hi))
          simp [this, e]
        · exact .inr ⟨k, c, e, z.sameBut hs (cne y c e)⟩
    · obtain ⟨w', z⟩ := I.cell y c e
      exact ⟨w', z.sameBut hs (cne y c e)⟩
    · obtain ⟨e, n, ne, nf, d⟩ := I.pin p hp
      exact ⟨(hs.2 p.1 ne).trans e, n, ne, nf, d⟩
  · have hfn : X.fn x = true := by
      rcases hf with z | z
      · exact z
      · rw [z] at hk; cases hk
    obtain ⟨c, hc⟩ := I.ok.has x (.inl hk)
    obtain ⟨w', z⟩ := I.cell x c hc
    refine wpAny_storeName_cell I.ok.kind hk hc z (fun h' hc' hs => ?_)
    obtain ⟨oc, hoc, hocd⟩ := id z
    refine h { s with heap := h' } ⟨I.ok, I.os, I.bare, ⟨fun b o e n hb hx => ?_, fun b o e n hb hx => ?_, I.base.free, fun b o e hx => ?_, I.base.tups, I.base.frzs, I.base.tbls⟩, ⟨m, hn.sameBut hs (Ne.symm (cne x c hc)), fun j y v' e1 e2 e3 => ?_⟩, fun y c' e => ?_, I.free, I.freeC, fun p hp => ?_, tracked ⟨oc, hoc, I.freeC x c hc⟩ hs, by simpa using I.len⟩ ⟨c, hs, .inr hc⟩
    · exact (hs.2 b (Nat.ne_of_lt (Nat.lt_of_lt_of_le (Heap.lt_size e) (I.ok.cab x c hfn hc)))).trans (I.base.keep b o e n hb hx)
    · obtain ⟨sl, e1⟩ := I.base.slot b o e n hb hx
      exact ⟨sl, (hs.2 b (Nat.ne_of_lt (Nat.lt_of_lt_of_le (Heap.lt_size e) (I.ok.cab x c hfn hc)))).trans e1⟩
    · obtain ⟨o', e1⟩ := I.base.there b o e hx
      exact ⟨o', (hs.2 b (Nat.ne_of_lt (Nat.lt_of_lt_of_le (Heap.lt_size e) (I.ok.cab x c hfn hc)))).trans e1⟩
    · by_cases hj : j = i
      · subst hj
        rw [hi] at e1; cases e1
        rw [List.getElem?_set_self hiσ] at e2
        cases e2
        exact ⟨u, r, .inr ⟨.inl hk, c, hc, hc'⟩⟩
      · rw [List.getElem?_set_ne (Ne.symm hj)] at e2
        obtain ⟨u', r', q⟩ := hl j y v' e1 e2 e3
        refine ⟨u', r', ?_⟩
        rcases q with q | ⟨k, c', e, z'⟩
        · exact .inl q
        · refine .inr ⟨k, c', e, z'.sameBut hs ?_⟩
          rintro rfl
          exact hj (nodup_ix hN e1 (I.ok.inj _ _ _ e hc ▸ hi))
    · by_cases hcc : c' = c
      · subst hcc; exact ⟨_, hc'⟩
      · obtain ⟨w2, z2⟩ := I.cell y c' e
        exact ⟨w2, z2.sameBut hs hcc⟩
    · obtain ⟨e, n, ne, nf, d⟩ := I.pin p hp
      refine ⟨(hs.2 p.1 ?_).trans e, n, ne, nf, d⟩
      intro q
      rw [q, hoc] at e
      have q' : oc = p.2 := Option.some.inj e
      exact d w' (by rw [← q']; exact hocd)
theorem store_ok {M : Model} {A : Around} {E : Value → Shared → Prop} {i : Nat} {x : Str} {v : V} {u : Value} {Q : Unit → Shared → Prop} (I : Inv X pins σ H s) (hN : X.N.Nodup) (hi : X.N[i]? = some x) (hx : Loc X.env.scope x) (r : RelV v u)
    (h : ∀ s', Inv X pins (σ.set i (some v)) H s' → Q () s') (hf : X.fn x = true ∨ X.env.scope.names.lookup x = some .local := by first | exact .inl rfl | exact .inr rfl | assumption) : wpAny M A (storeName X.env x u) Q E s :=
  store_ok2 I hN hi hx r (fun s' I' _ => h s' I') hf
theorem Inv.call' {s' : Shared} {ch : List Addr} (I : Inv X pins σ H s) (ho : s'.os = s.os) (u : Un (frs X.stack) ch H H' s.heap s'.heap) (hok : HOk X.prog X.w H' s'.heap) (hg : AllBare s'.gens)
    (hch : ∀ b ∈ ch, (b ∈ X.ex ∨ X.s₀.heap.objs.size ≤ b) ∧ b ≠ X.env.locals ∧ (∀ x c, X.env.cells.lookup x = some c → c ≠ b) ∧ ∀ p ∈ X.pn ++ pins, p.1 ≠ b) : Inv X pins σ H' s' := by
  obtain ⟨h', g', d', t', o'⟩ := s'
  have e : o' = s.os := ho
  subst e
  exact I.call (g' := g') (t' := t') (d' := d') u hok hg hch
end
abbrev XK := Value → Option Addr → Hp → Prop
abbrev St := List (Option V)
abbrev VK := V → Hp → Prop
abbrev TE := St → Hp → VK → Prop
abbrev TT := St → Hp → (Bool → Hp → Prop) → Prop
abbrev TA := St → Hp → (List V → Hp → Prop) → Prop
structure Ends where
  nx : St → Hp → Prop
  rt : VK
  bk : St → Hp → Prop := fun _ _ => False
  ct : St → Hp → Prop := fun _ _ => False
abbrev TS := Ends → St → Hp → Prop
def EP (X : Cx) (pins : List (Addr × Obj)) (σ : St) (Q : VK) (u : Value) (s' : Shared) : Prop := ∃ v H', Inv X pins σ H' s' ∧ RelV v u ∧ Q v H'
def TP (X : Cx) (pins : List (Addr × Obj)) (σ : St) (Q : Bool → Hp → Prop) (b : Bool) (s' : Shared) : Prop := ∃ H', Inv X pins σ H' s' ∧ Q b H'
def AP (X : Cx) (pins : List (Addr × Obj)) (σ : St) (Q : List V → Hp → Prop) (us : List Value) (s' : Shared) : Prop := ∃ vs H', Inv X pins σ H' s' ∧ Vals vs us ∧ Q vs H'
def SP (X : Cx) (pins : List (Addr × Obj)) (D : Ends) (f : Flow) (s' : Shared) : Prop :=
  match f with
  | .next => ∃ σ' H', Inv X pins σ' H' s' ∧ D.nx σ' H'
  | .brk => ∃ σ' H', Inv X pins σ' H' s' ∧ D.bk σ' H'
  | .cont => ∃ σ' H', Inv X pins σ' H' s' ∧ D.ct σ' H'
  | .ret u => ∃ v σ' H', Inv X pins σ' H' s' ∧ RelV v u ∧ D.rt v H'
def PE (X : Cx) (e : Expr) (t : TE) : Prop :=
  ∀ (pins : List (Addr × Obj)) (s : Shared) (σ : St) (H : Hp) (Q : VK), Inv X pins σ H s → t σ H Q → wpAny (model X.prog X.w) X.A (eval e X.env) (EP X pins σ Q) X.xe s
def PT (X : Cx) (e : Expr) (t : TT) : Prop :=
  ∀ (pins : List (Addr × Obj)) (s : Shared) (σ : St) (H : Hp) (Q : Bool → Hp → Prop), Inv X pins σ H s → t σ H Q → wpAny (model X.prog X.w) X.A (isTrue e X.env (eval e X.env)) (TP X pins σ Q) X.xe s
def PW (X : Cx) (e : Expr) (t : TT) : Prop :=
  ∀ (whole : Sem Value) (pins : List (Addr × Obj)) (s : Shared) (σ : St) (H : Hp) (Q : Bool → Hp → Prop), Inv X pins σ H s → t σ H Q → wpAny (model X.prog X.w) X.A (isTrue e X.env whole) (TP X pins σ Q) X.xe s
theorem PW.pt {X : Cx} {e : Expr} {t : TT} (h : PW X e t) : PT X e t := h _
def PA (X : Cx) (es : List Expr) (t : TA) : Prop :=
  ∀ (pos : Pos) (pins : List (Addr × Obj)) (s : Shared) (σ : St) (H : Hp) (Q : List V → Hp → Prop), Inv X pins σ H s → t σ H Q → wpAny (model X.prog X.w) X.A (spliced (backTo pos (starEach es X.env))) (AP X pins σ Q) X.xe s
def PS (X : Cx) (st : Stmt) (t : TS) : Prop :=
  ∀ (pins : List (Addr × Obj)) (s : Shared) (σ : St) (H : Hp) (D : Ends), Inv X pins σ H s → t D σ H → wpAny (model X.prog X.w) X.A (exec st X.env) (SP X pins D) X.xe s
def PSs (X : Cx) (st : List Stmt) (t : TS) : Prop :=
  ∀ (pins : List (Addr × Obj)) (s : Shared) (σ : St) (H : Hp) (D : Ends), Inv X pins σ H s → t D σ H → wpAny (model X.prog X.w) X.A (execs st X.env) (SP X pins D) X.xe s
theorem thn {α : Type} {t : Sem α} {Q Q' : α → Shared → Prop} {M : Model} {A : Around} {E : Value → Shared → Prop} {s : Shared} (h : wpAny M A t Q E s) (hQ : ∀ a s, Q a s → Q' a s) : wpAny M A t Q' E s := wpAny_mono h hQ fun _ _ x => x
end L2
namespace L2
open PySem PySem.Spec PyProof.Rows
section
variable {X : Cx}
def tVar (i : Nat) : TE := fun σ H Q => ∃ v, σ[i]? = some (some v) ∧ Q v H
def tC (v : V) : TE := fun _ H Q => Q v H
theorem pe_var {i : Nat} {x : Str} {pos : Pos} (hN : X.N[i]? = some x) (hv : Vis X.env.scope x) (hd : (x == ("__debug__" : Str)) = false := by decide) (hcd : (x == ("__classdict__" : Str)) = false := by decide) : PE X (.Name x pos) (tVar i) := by
  intro pins s σ H Q I h
  obtain ⟨v, e, h⟩ := h
  obtain ⟨m, hn, hl⟩ := I.loc
  obtain ⟨u, r, l⟩ := hl i x v hN e hv
  have fin : EP X pins σ Q u s := ⟨v, H, I, r, h⟩
  rcases l with ⟨hk, hm⟩ | ⟨hk, c, hc, hcell⟩
  · exact wpAny_Name (wpAny_loadName_local I.ok.kind hk hn hm fin) hd
  · rcases hk with hk | hk
    · exact wpAny_Name (wpAny_loadName_cell I.ok.kind hk hc hcell fin) hd
    · exact wpAny_Name (wpAny_loadName_free I.ok.kind hk hc hcell fin hcd) hd
theorem pe_int {i j pos} : PE X (.Constant (.int i) j pos) (tC (.int i)) := fun _ _ _ H _ I h => wpAny_Constant_int ⟨.int i, H, I.tok _, ⟨_, rfl⟩, h⟩
theorem pe_bl {b j pos} : PE X (.Constant (.bool b) j pos) (tC (.bl b)) := fun _ _ _ H _ I h => Constant_bool ⟨.bl b, H, I, rfl, h⟩
theorem pe_non {j pos} : PE X (.Constant .none j pos) (tC .non) := fun _ _ _ H _ I h => Constant_none ⟨.non, H, I, rfl, h⟩
theorem pe_str {x j pos} : PE X (.Constant (.str x) j pos) (tC (.str x)) := fun _ _ _ H _ I h => Calls.Constant_str ⟨.str x, H, I.tok _, ⟨_, rfl⟩, h⟩
def Gl (X : Cx) (x : Str) : Prop := X.env.kindOf x = some .globalImplicit
theorem ld_glob {E : Value → Shared → Prop} {pins : List (Addr × Obj)} {s : Shared} {σ : St} {H : Hp} {x : Str} {u : Value} {pos : Pos} {Q : Value → Shared → Prop} (I : Inv X pins σ H s) (hg : Gl X x) (hm : X.mg x = some u) (h : Q u s)
    (hd : (x == ("__debug__" : Str)) = false := by decide) : wpAny (model X.prog X.w) X.A (eval (.Name x pos) X.env) Q E s :=
  Calls.Name_function_global I.ok.kind hg (Calls.loadGlobal_global (by rw [I.ok.glob]; exact I.mod.glob.keeps I.bk) hm h) hd
theorem ld_blt {E : Value → Shared → Prop} {pins : List (Addr × Obj)} {s : Shared} {σ : St} {H : Hp} {x : Str} {u : Value} {pos : Pos} {Q : Value → Shared → Prop} (I : Inv X pins σ H s) (hg : Gl X x) (hm : X.mg x = none) (hv : bootBuiltins x = some u) (h : Q u s)
    (hn : x ≠ "__name__" := by decide) (hd : (x == ("__debug__" : Str)) = false := by decide) : wpAny (model X.prog X.w) X.A (eval (.Name x pos) X.env) Q E s := by
  obtain ⟨mb, h1, h2⟩ := I.mod.blt
  exact Calls.Name_function_global I.ok.kind hg (Calls.loadGlobal_builtin (by rw [I.ok.glob]; exact I.mod.glob.keeps I.bk) hm (by rw [I.ok.blt]; exact h1.keeps I.bk) ((h2 x hn).trans hv) h) hd
theorem pe_glob {x : Str} {v : V} {u : Value} {pos : Pos} (hg : Gl X x) (hm : X.mg x = some u) (r : RelV v u) (hd : (x == ("__debug__" : Str)) = false := by decide) : PE X (.Name x pos) (tC v) :=
  fun _ _ _ H _ I h => ld_glob I hg hm ⟨v, H, I, r, h⟩ hd
theorem pe_bltn {x : Str} {v : V} {u : Value} {pos : Pos} (hg : Gl X x) (hm : X.mg x = none) (hv : bootBuiltins x = some u) (r : RelV v u) (hn : x ≠ "__name__" := by decide) (hd : (x == ("__debug__" : Str)) = false := by decide) : PE X (.Name x pos) (tC v) :=
  fun _ _ _ H _ I h => ld_blt I hg hm hv ⟨v, H, I, r, h⟩ hn hd
variable {a b : Expr} {ta tb : TE} {pos : Pos}
def PC (X : Cx) (op : CmpOp) (a b : Expr) (t : TE) : Prop :=
  ∀ (pins : List (Addr × Obj)) (s : Shared) (σ : St) (H : Hp) (Q : VK), Inv X pins σ H s → t σ H Q →
    wpAny (model X.prog X.w) X.A (eval a X.env) (fun v s₁ => wpAny (model X.prog X.w) X.A (eval b X.env) (fun u s₂ => wpAny (model X.prog X.w) X.A (compareOp op v u) (EP X pins σ Q) X.xe s₂) X.xe s₁) X.xe s
def tB (t : TE) : TT := fun σ H Q => t σ H fun x H1 => ∃ c, x = .bl c ∧ Q c H1
theorem pt_cmp {op : CmpOp} {t : TE} (h : PC X op a b t) (h1 : behindInMarks op b = false := by first | exact nobehind _ (by decide) (by decide) | rfl) : PT X (.Compare a [op] [b] pos) (tB t) := by
  intro pins s σ H Q I hw
  refine wpAny_isTrue_Compare1 (thn (h pins s σ H _ I hw) fun v s1 h1 => thn h1 fun u s2 h2 => thn h2 fun c s3 ⟨x, H1, I1, r1, q1⟩ => ?_) h1
  obtain ⟨d, rfl, q⟩ := q1
  cases r1
  exact wpAny_truthy_bool ⟨H1, I1, q⟩
theorem pt_val {e : Expr} {t : TE} (h : PE X e t) (he : ∀ whole, isTrue e X.env whole = (do let v ← whole; standAt e.pos; holding [v] (truthy v)) := by intro _; rfl) : PT X e (tB t) := by
  intro pins s σ H Q I hw
  refine isTrue_plain (thn (h pins s σ H _ I hw) fun v s1 ⟨x, H1, I1, r1, q1⟩ => ?_) (he _)
  obtain ⟨d, rfl, q⟩ := q1
  cases r1
  exact wpAny_truthy_bool ⟨H1, I1, q⟩
variable {tA tB' : TT} {rest : List Expr}
def tAnd (t u : TT) : TT := fun σ H Q => t σ H fun c H1 => if c = true then u σ H1 Q else Q false H1
def tOr (t u : TT) : TT := fun σ H Q => t σ H fun c H1 => if c = true then Q true H1 else u σ H1 Q
def tNot (t : TT) : TT := fun σ H Q => t σ H fun c H1 => Q (!c) H1
theorem pw_and1 (ha : PT X a tA) : PW X (.BoolOp .And [a] pos) tA := by
  intro wh pins s σ H Q I h
  refine isTrue_and (thn (ha pins s σ H Q I h) fun c s1 e => ?_)
  cases c with
  | true => exact isTrue_and_nil e
  | false => exact e
theorem pw_or1 (ha : PT X a tA) : PW X (.BoolOp .Or [a] pos) tA := by
  intro wh pins s σ H Q I h
  refine isTrue_or (thn (ha pins s σ H Q I h) fun c s1 e => ?_)
  cases c with
  | false => exact isTrue_or_nil e
  | true => exact e
theorem pw_and (ha : PT X a tA) (hb : PW X (.BoolOp .And (b :: rest) pos) tB') : PW X (.BoolOp .And (a :: b :: rest) pos) (tAnd tA tB') := by
  intro wh pins s σ H Q I h
  refine isTrue_and (thn (ha pins s σ H _ I h) fun c s1 ⟨H1, I1, q1⟩ => ?_)
  cases c with
  | true => exact hb wh pins s1 σ H1 Q I1 q1
  | false => exact ⟨H1, I1, q1⟩
theorem pw_or (ha : PT X a tA) (hb : PW X (.BoolOp .Or (b :: rest) pos) tB') : PW X (.BoolOp .Or (a :: b :: rest) pos) (tOr tA tB') := by
  intro wh pins s σ H Q I h
  refine isTrue_or (thn (ha pins s σ H _ I h) fun c s1 ⟨H1, I1, q1⟩ => ?_)
  cases c with
  | true => exact ⟨H1, I1, q1⟩
  | false => exact hb wh pins s1 σ H1 Q I1 q1
theorem pt_not (ha : PT X a tA) : PT X (.UnaryOp .Not a pos) (tNot tA) := by
  intro pins s σ H Q I h
  exact isTrue_not (ha pins s σ H (fun c H1 => Q (!c) H1) I h)
def tAndV (ta tb : TE) : TE := fun σ H Q => ta σ H fun x H1 => ∃ c, x = .bl c ∧ if c = true then tb σ H1 Q else Q (.bl false) H1
def tOrV (ta tb : TE) : TE := fun σ H Q => ta σ H fun x H1 => ∃ c, x = .bl c ∧ if c = true then Q (.bl true) H1 else tb σ H1 Q
def tNotV (ta : TE) : TE := fun σ H Q => ta σ H fun x H1 => ∃ c, x = .bl c ∧ Q (.bl (!c)) H1
theorem pe_one {op} {t : TE} (h : PE X a t) : PE X (.BoolOp op [a] pos) t := fun pins s σ H Q I hw => BoolOp_one (h pins s σ H Q I hw)
theorem pe_and (ha : PE X a ta) (hb : PE X (.BoolOp .And (b :: rest) pos) tb) : PE X (.BoolOp .And (a :: b :: rest) pos) (tAndV ta tb) := by
  intro pins s σ H Q I h
  refine BoolOp_and (thn (ha pins s σ H _ I h) fun v s1 ⟨x, H1, I1, r1, q1⟩ => ?_)
  obtain ⟨c, rfl, q1⟩ := q1
  cases r1
  refine wpAny_truthy_bool ?_
  cases c with
  | true => exact hb pins s1 σ H1 Q I1 q1
  | false => exact ⟨.bl false, H1, I1, rfl, q1⟩
theorem pe_or (ha : PE X a ta) (hb : PE X (.BoolOp .Or (b :: rest) pos) tb) : PE X (.BoolOp .Or (a :: b :: rest) pos) (tOrV ta tb) := by
  intro pins s σ H Q I h
  refine BoolOp_or (thn (ha pins s σ H _ I h) fun v s1 ⟨x, H1, I1, r1, q1⟩ => ?_)
  obtain ⟨c, rfl, q1⟩ := q1
  cases r1
  refine wpAny_truthy_bool ?_
  cases c with
  | false => exact hb pins s1 σ H1 Q I1 q1
  | true => exact ⟨.bl true, H1, I1, rfl, q1⟩
theorem pe_not (ha : PE X a ta) : PE X (.UnaryOp .Not a pos) (tNotV ta) := by
  intro pins s σ H Q I h
  refine UnaryOp_ (thn (ha pins s σ H _ I h) fun v s1 ⟨x, H1, I1, r1, q1⟩ => ?_)
  obtain ⟨c, rfl, q1⟩ := q1
  cases r1
  exact not_of (wpAny_truthy_bool ⟨.bl (!c), H1, I1, rfl, q1⟩)
def tIf (t : TT) (ta tb : TE) : TE := fun σ H Q => t σ H fun c H1 => if c = true then ta σ H1 Q else tb σ H1 Q
end
end L2
namespace L2
open PySem PySem.Spec PyProof.Rows
def SqL (K : PySem.W.Frag) (H : Hp) (a : Addr) (xs : List V) : Prop :=
  Rd H a (.lst xs) ∨
    ∃ (o : Obj) (its : Array Value) (n : Nat), K.lookup a = some o ∧ o.cls = .type "list" ∧ o.dict = none ∧ o.data = .seq its n ∧ its.size ≤ sizeLine ∧ Vals xs its.toList
def SqT (K : PySem.W.Frag) (H : Hp) (a : Addr) (xs : List V) : Prop :=
  Rd H a (.tup xs) ∨
    ∃ (o : Obj) (its : Array Value) (n : Nat), K.lookup a = some o ∧ o.cls = .type "tuple" ∧ o.data = .seq its n ∧ its.size ≤ sizeLine ∧ Vals xs its.toList
def absV : Value → Option V
  | .none => some .non
  | .bool b => some (.bl b)
  | .int i _ => some (.int i)
  | .str x _ => some (.str x)
  | .bytes b _ => some (.byt b)
  | .float b _ => some (.flt b)
  | .ref a => some (.ref a)
  | .type n => some (.ty n)
  | _ => none
theorem RelV.abs {x : V} {u : Value} (r : RelV x u) : absV u = some x := by
  cases x with
  | non => cases r; rfl
  | bl _ => cases r; rfl
  | int _ => obtain ⟨t, rfl⟩ := r; rfl
  | str _ => obtain ⟨t, rfl⟩ := r; rfl
  | byt _ => obtain ⟨t, rfl⟩ := r; rfl
  | flt _ => obtain ⟨t, rfl⟩ := r; rfl
  | ref _ => cases r; rfl
  | ty _ => cases r; rfl
theorem RelV.inj {x y : V} {u : Value} (r : RelV x u) (q : RelV y u) : x = y := Option.some.inj (r.abs.symm.trans q.abs)
theorem Vals.inj : ∀ {xs ys : List V} {us : List Value}, Vals xs us → Vals ys us → xs = ys
  | _, _, _, .nil, .nil => rfl
  | _, _, _, .cons r t, .cons r' t' => by rw [r.inj r', Vals.inj t t']
section
variable {X : Cx} {pins : List (Addr × Obj)} {σ : St} {H : Hp} {s : Shared} {a : Addr} {xs ys : List V}
theorem SqL.of {K : PySem.W.Frag} (h : H a = some (.lst xs)) : SqL K H a xs := .inl (.inl h)
theorem SqT.of {K : PySem.W.Frag} (h : H a = some (.tup xs)) : SqT K H a xs := .inl (.inl h)
theorem Inv.list (I : Inv X pins σ H s) (h : SqL X.K H a xs) : ∃ its : List Value, Vals xs its ∧ PlainL s.heap a its.toArray ∧ xs.length ≤ sizeLine := by
  rcases h with h | ⟨o, its, n, hk, hc, hd, hs, hz, r⟩
  · obtain ⟨z, its, n, r, e⟩ := h.ok I.hok
    exact ⟨its, r, ⟨_, n, e, rfl, rfl, rfl⟩, z⟩
  · refine ⟨its.toList, r, ⟨o, n, I.kIn a o hk, hc, hd, by simpa using hs⟩, ?_⟩
    have e := r.length
    simp only [Array.length_toList] at e
    omega
theorem Inv.tuple (I : Inv X pins σ H s) (h : SqT X.K H a xs) : ∃ its : List Value, Vals xs its ∧ IsTup s.heap a its.toArray ∧ xs.length ≤ sizeLine := by
  rcases h with h | ⟨o, its, n, hk, hc, hs, hz, r⟩
  · obtain ⟨z, its, r, p⟩ := h.ok I.hok
    exact ⟨its, r, p, z⟩
  · refine ⟨its.toList, r, ⟨o, I.kIn a o hk, hc, n, by simpa using hs⟩, ?_⟩
    have e := r.length
    simp only [Array.length_toList] at e
    omega
theorem Inv.list_inj (I : Inv X pins σ H s) (h : SqL X.K H a xs) (h' : SqL X.K H a ys) : xs = ys := by
  obtain ⟨its, r, ⟨o, n, e, _, _, d⟩, _⟩ := I.list h
  obtain ⟨its', r', ⟨o', n', e', _, _, d'⟩, _⟩ := I.list h'
  rw [e] at e'; cases e'
  rw [d] at d'
  injection d' with d1 _
  have : its = its' := by simpa using congrArg Array.toList d1
  subst this
  exact r.inj r'
theorem Inv.tuple_inj (I : Inv X pins σ H s) (h : SqT X.K H a xs) (h' : SqT X.K H a ys) : xs = ys := by
  obtain ⟨its, r, ⟨o, e, _, n, d⟩, _⟩ := I.tuple h
  obtain ⟨its', r', ⟨o', e', _, n', d'⟩, _⟩ := I.tuple h'
  rw [e] at e'; cases e'
  rw [d] at d'
  injection d' with d1 _
  have : its = its' := by simpa using congrArg Array.toList d1
  subst this
  exact r.inj r'
end
abbrev Cx.wish (X : Cx) (E : Value → Shared → Prop) : Cx := { X with xe := E }
abbrev Cx.nox (X : Cx) : Cx := X.wish fun _ _ => False
theorem Cx.Ok.wish {X : Cx} (ok : X.Ok) (E : Value → Shared → Prop) : (X.wish E).Ok :=
  ⟨ok.mod, ok.kind, ok.glob, ok.blt, ok.above, ok.inj, ok.has, ok.cab, ok.hd, ok.frames, ok.stk, ok.exf, ok.bs, ok.bsz, ok.noex, ok.exfs, ok.funs, ok.frf⟩
theorem Cx.Ok.unwish {X : Cx} {E : Value → Shared → Prop} (ok : (X.wish E).Ok) : X.Ok :=
  ⟨ok.mod, ok.kind, ok.glob, ok.blt, ok.above, ok.inj, ok.has, ok.cab, ok.hd, ok.frames, ok.stk, ok.exf, ok.bs, ok.bsz, ok.noex, ok.exfs, ok.funs, ok.frf⟩
section
variable {X : Cx} {pins : List (Addr × Obj)} {σ : St} {H : Hp} {s : Shared} {E : Value → Shared → Prop}
theorem Inv.wish (I : Inv X pins σ H s) (E : Value → Shared → Prop) : Inv (X.wish E) pins σ H s := ⟨I.ok.wish E, I.os, I.bare, I.base, I.loc, I.cell, I.free, I.freeC, I.pin, I.hok, I.len⟩
theorem Inv.unwish (I : Inv (X.wish E) pins σ H s) : Inv X pins σ H s := ⟨I.ok.unwish, I.os, I.bare, I.base, I.loc, I.cell, I.free, I.freeC, I.pin, I.hok, I.len⟩
theorem SP.unwish {D : Ends} {f : Flow} {s' : Shared} (h : SP (X.wish E) pins D f s') : SP X pins D f s' := by
  cases f with
  | next => obtain ⟨σ', H', I, q⟩ := h; exact ⟨σ', H', I.unwish, q⟩
  | brk => obtain ⟨σ', H', I, q⟩ := h; exact ⟨σ', H', I.unwish, q⟩
  | cont => obtain ⟨σ', H', I, q⟩ := h; exact ⟨σ', H', I.unwish, q⟩
  | ret u => obtain ⟨v, σ', H', I, r, q⟩ := h; exact ⟨v, σ', H', I.unwish, r, q⟩
theorem PSs.nox {st : List Stmt} {t : TS} (h : PSs X.nox st t) : PSs X st t := fun pins s σ H D I hw =>
  wpAny_mono (h pins s σ H D (I.wish _) hw) (fun _ _ q => q.unwish) fun _ _ z => False.elim z
end
section
variable {X : Cx} {st : Stmt} {rest : List Stmt} {t u : TS} {e : Expr} {te : TE} {pos : Pos}
def tNext : TS := fun D σ H => D.nx σ H
def tSeq (t u : TS) : TS := fun D σ H => t { D with nx := u D } σ H
theorem pss_nil : PSs X [] tNext := fun _ _ σ H _ I h => wpAny_execs_nil ⟨σ, H, I, h⟩
theorem pss_cons (h1 : PS X st t) (h2 : PSs X rest u) : PSs X (st :: rest) (tSeq t u) := by
  intro pins s σ H D I h
  refine wpAny_execs_cons (thn (h1 pins s σ H { D with nx := u D } I h) fun f s1 q => ?_)
  cases f with
  | next =>
    obtain ⟨σ', H', I', q⟩ := q
    exact h2 pins s1 σ' H' D I' q
  | ret v => exact q
  | brk => exact q
  | cont => exact q
theorem pss_one (h1 : PS X st t) : PSs X [st] t := by
  intro pins s σ H D I h
  refine wpAny_execs_cons (thn (h1 pins s σ H D I h) fun f s1 q => ?_)
  cases f with
  | next => exact wpAny_execs_nil q
  | ret v => exact q
  | brk => exact q
  | cont => exact q
def tBreak : TS := fun D σ H => D.bk σ H
def tCont : TS := fun D σ H => D.ct σ H
theorem Inv.quiet {pins : List (Addr × Obj)} {σ : St} {H : Hp} {s : Shared} (I : Inv X pins σ H s) : interactive X.env = false := by simp [interactive, I.ok.kind]
def tDrop (te : TE) : TS := fun D σ H => te σ H fun _ H1 => D.nx σ H1
theorem ps_expr (he : PE X e te) (hs : swapsWith e none pos.line X.env = pure false := by rfl) : PS X (.Expr e pos) (tDrop te) := by
  intro pins s σ H D I h
  exact wpAny_Expr_any (thn (he pins s σ H _ I h) fun v s1 ⟨x, H1, I1, r1, q1⟩ => ⟨σ, H1, I1, q1⟩) I.quiet hs
def tRet (te : TE) : TS := fun D σ H => te σ H D.rt
theorem ps_ret (he : PE X e te) : PS X (.Return (some e) pos) (tRet te) := by
  intro pins s σ H D I h
  exact wpAny_Return_some (thn (he pins s σ H _ I h) fun v s1 ⟨x, H1, I1, r1, q1⟩ => ⟨x, σ, H1, I1, r1, q1⟩)
def tRetN : TS := fun D _ H => D.rt .non H
theorem ps_retN : PS X (.Return none pos) tRetN := fun _ _ σ H _ I h => wpAny_Return_none ⟨.non, σ, H, I, rfl, h⟩
def tIfS (c : TT) (t u : TS) : TS := fun D σ H => c σ H fun b H1 => if b = true then t D σ H1 else u D σ H1
theorem ps_if {c : Expr} {a b : List Stmt} {tc : TT} (hc : PT X c tc) (ha : PSs X a t) (hb : PSs X b u) : PS X (.If c a b pos) (tIfS tc t u) := by
  intro pins s σ H D I h
  refine wpAny_If (thn (hc pins s σ H _ I h) fun d s1 ⟨H1, I1, q1⟩ => ?_)
  cases d with
  | true => exact ha pins s1 σ H1 D I1 q1
  | false => exact hb pins s1 σ H1 D I1 q1
end
abbrev TG := V → St → Hp → (St → Hp → Prop) → Prop
abbrev TGs := List V → St → Hp → (St → Hp → Prop) → Prop
def PG (X : Cx) (target : Expr) (t : TG) : Prop :=
  ∀ (pins : List (Addr × Obj)) (s : Shared) (σ : St) (H : Hp) (v : V) (u : Value) (Q : St → Hp → Prop), Inv X pins σ H s → RelV v u → t v σ H Q →
    wpAny (model X.prog X.w) X.A (assign target X.env u) (fun _ s' => ∃ σ' H', Inv X pins σ' H' s' ∧ Q σ' H') X.xe s
def PGs (X : Cx) (ts : List Expr) (t : TGs) : Prop :=
  ∀ (pins : List (Addr × Obj)) (s : Shared) (σ : St) (H : Hp) (vs : List V) (us : List Value) (Q : St → Hp → Prop), Inv X pins σ H s → Vals vs us → t vs σ H Q →
    wpAny (model X.prog X.w) X.A (assignInOrder ((assignEach ts X.env).map (·.2)) us) (fun _ s' => ∃ σ' H', Inv X pins σ' H' s' ∧ Q σ' H') X.xe s
abbrev TSet := V → V → V → Hp → (Hp → Prop) → Prop
def PSet (X : Cx) (t : TSet) : Prop :=
  ∀ (pins : List (Addr × Obj)) (s : Shared) (σ : St) (H : Hp) (o i v : V) (ov iv u : Value) (Q : Hp → Prop), Inv X pins σ H s → RelV o ov → RelV i iv → RelV v u → t o i v H Q →
    wpAny (model X.prog X.w) X.A (setItem ov iv u) (fun _ s' => ∃ H', Inv X pins σ H' s' ∧ Q H') X.xe s
section
variable {X : Cx} {pos : Pos}
def gName (i : Nat) : TG := fun v σ H Q => Q (σ.set i (some v)) H
theorem pg_name {i : Nat} {x : Str} (hN : X.N.Nodup) (hi : X.N[i]? = some x) (hx : Loc X.env.scope x) (hf : X.fn x = true ∨ X.env.scope.names.lookup x = some .local := by first | exact .inl rfl | exact .inr rfl | assumption) : PG X (.Name x pos) (gName i) := by
  intro pins s σ H v u Q I r h
  exact wpAny_assign_Name (store_ok I hN hi hx r (fun s' I' => ⟨_, H, I', h⟩) hf)
def gNil : TGs := fun vs σ H Q => vs = [] ∧ Q σ H
def gCons (t : TG) (u : TGs) : TGs := fun vs σ H Q => ∃ v r, vs = v :: r ∧ t v σ H fun σ' H' => u r σ' H' Q
theorem pgs_nil : PGs X [] gNil := by
  intro pins s σ H vs us Q I r h
  obtain ⟨e, h⟩ := h
  subst e
  cases r
  exact assignInOrder_nil ⟨σ, H, I, h⟩
theorem pgs_cons {e : Expr} {es : List Expr} {t : TG} {u : TGs} (h1 : PG X e t) (h2 : PGs X es u)
    (hs : (assignEach (e :: es) X.env).map (·.2) = assign e X.env :: (assignEach es X.env).map (·.2) := by rfl) : PGs X (e :: es) (gCons t u) := by
  intro pins s σ H vs us Q I r h
  obtain ⟨v, vr, e1, h⟩ := h
  subst e1
  cases r with
  | cons r rr =>
    rw [hs]
    refine assignInOrder_cons (thn (h1 pins s σ H _ _ _ I r h) fun _ s1 ⟨σ1, H1, I1, q1⟩ => ?_)
    exact h2 pins s1 σ1 H1 _ _ Q I1 rr q1
def gTup (K : PySem.W.Frag) (n : Nat) (t : TGs) : TG := fun v σ H Q => ∃ a xs, v = .ref a ∧ SqT K H a xs ∧ xs.length = n ∧ t xs σ H Q
theorem pg_tup {es : List Expr} {k : Nat} {t : TGs} {n : Nat} (hc : X.calm = true) (h : PGs X es t)
    (hn : (assignEach es X.env).length = n := by rfl) (hst : (assignEach es X.env).findIdx? (·.1) = none := by rfl) : PG X (.Tuple es k pos) (gTup X.K n t) := by
  intro pins s σ H v u Q I r hw
  obtain ⟨a, xs, e1, hq, hl, hw⟩ := hw
  subst e1
  cases r
  obtain ⟨its, rv, ht, hz⟩ := I.tuple hq
  refine assign_Tuple_tuple (I.ok.hd hc) ht (by simp [hn, ← hl, rv.length]) hst fun h' hx => ?_
  have I1 : Inv X pins σ H { s with heap := h' } := I.kept (t' := s.toks) fun b o e => hx b o (Nat.ne_of_lt (Heap.lt_size e)) e
  exact h pins _ σ H xs _ Q I1 (by simpa using rv) hw
def gSub (to ti : TE) (t : TSet) : TG := fun v σ H Q => to σ H fun o H1 => ti σ H1 fun i H2 => t o i v H2 fun H3 => Q σ H3
theorem pg_sub {o i : Expr} {to ti : TE} {t : TSet} (ho : PE X o to) (hi : PE X i ti) (hs : PSet X t)
    (ha : ∀ v, assign (.Subscript o i pos) X.env v = (do
      let ov ← holding [v] (eval o X.env)
      let iv ← holding [v, ov] (eval i X.env)
      standAt pos
      holding [v, ov, iv] (setItem ov iv v)
      release [v, ov, iv] []) := by intro _; rfl) : PG X (.Subscript o i pos) (gSub to ti t) := by
  intro pins s σ H v u Q I r h
  rw [ha]
  refine wpAny_bind (wpAny_holding (thn (ho pins s σ H _ I h) fun ov s1 ⟨x, H1, I1, r1, q1⟩ => ?_))
  refine wpAny_bind (wpAny_holding (thn (hi pins s1 σ H1 _ I1 q1) fun iv s2 ⟨y, H2, I2, r2, q2⟩ => ?_))
  refine wpAny_bind (wpAny_standAt (wpAny_bind (wpAny_holding (thn (hs pins s2 σ H2 x y v ov iv u _ I2 r1 r2 r q2) fun _ s3 ⟨H3, I3, q3⟩ => ?_))))
  exact wpAny_release ⟨σ, H3, I3, q3⟩
def tAsg (te : TE) (g : TG) : TS := fun D σ H => te σ H fun x H1 => g x σ H1 D.nx
theorem ps_asg {tg e : Expr} {te : TE} {g : TG} (he : PE X e te) (hg : PG X tg g) (hs : swapsWithSole [tg] e pos.line X.env = pure false := by rfl) (hw : swappedStores [tg] e X.env = pure none := by rfl)
    (h1 : (assignEach [tg] X.env).map (·.2) = [assign tg X.env] := by rfl) : PS X (.Assign [tg] e pos) (tAsg te g) := by
  intro pins s σ H D I h
  refine wpAny_Assign_stores (thn (he pins s σ H _ I h) fun v s1 ⟨x, H1, I1, r1, q1⟩ => ?_) hs hw
  rw [h1]
  exact thn (hg pins s1 σ H1 x v _ I1 r1 q1) fun _ s2 q => q
theorem ps_set {i : Nat} {x : Str} {e : Expr} {te : TE} {pos' : Pos} (hN : X.N.Nodup) (hi : X.N[i]? = some x) (hx : Loc X.env.scope x) (he : PE X e te) (hs : swapsWith e (some (.Name x pos')) pos.line X.env = pure false := by rfl) (hf : X.fn x = true ∨ X.env.scope.names.lookup x = some .local := by first | exact .inl rfl | exact .inr rfl | assumption) :
    PS X (.Assign [.Name x pos'] e pos) (tAsg te (gName i)) := by
  intro pins s σ H D I h
  refine wpAny_Assign_Name (thn (he pins s σ H _ I h) fun v s1 ⟨y, H1, I1, r1, q1⟩ => ?_) hs
  exact store_ok I1 hN hi hx r1 (fun s2 I2 => ⟨_, H1, I2, q1⟩) hf
def tPar (i j : Nat) (ta : TA) : TS := fun D σ H => ta σ H fun vs H1 => ∃ v w, vs = [v, w] ∧ D.nx ((σ.set i (some v)).set j (some w)) H1
theorem ps_par {i j : Nat} {x y : Str} {a b : Expr} {ta : TA} {px py pt : Pos} {kt k2 pt2} (hc : X.calm = true) (hN : X.N.Nodup) (hi : X.N[i]? = some x) (hj : X.N[j]? = some y) (hij : i ≠ j)
    (hx : X.env.scope.names.lookup x = some .local) (hy : X.env.scope.names.lookup y = some .local) (ha : PA X [a, b] ta)
    (hw : swappedStores [.Tuple [.Name x px, .Name y py] kt pt] (.Tuple [a, b] k2 pt2) X.env = pure (some [x, y]))
    (hs : swapsWithSole [.Tuple [.Name x px, .Name y py] kt pt] (.Tuple [a, b] k2 pt2) pos.line X.env = pure false := by rfl) :
    PS X (.Assign [.Tuple [.Name x px, .Name y py] kt pt] (.Tuple [a, b] k2 pt2) pos) (tPar i j ta) := by
  intro pins s σ H D I h
  rw [exec_Assign_arm]
  refine wpAny_bind (wpAny_standAt ?_)
  rw [hs]
  refine wpAny_bind (wpAny_pure ?_)
  rw [if_neg (by decide)]
  refine wpAny_bind (Tuple_ (thn (ha _ pins s σ H _ I h) fun us s1 ⟨vs, H1, I1, r1, q1⟩ => ?_))
  obtain ⟨v, w, e1, q1⟩ := q1
  subst e1
  obtain ⟨u1, u2, rfl, rv, rw'⟩ : ∃ u1 u2, us = [u1, u2] ∧ RelV v u1 ∧ RelV w u2 := by
    cases r1 with
    | cons p q =>
      cases q with
      | cons p' q' =>
        cases q'
        exact ⟨_, _, rfl, p, p'⟩
  refine wpAny_newObj_type ?_ (by show 2 ≤ sizeLine; decide)
  have I2 : Inv X pins σ H1 { s1 with heap := s1.heap.push { cls := .type "tuple", data := .seq [u1, u2].toArray } } := I1.kept (t' := s1.toks) fun b o e => Heap.get?_push_of_some _ e
  rw [hw]
  refine wpAny_bind (wpAny_pure ?_)
  show wpAny (model X.prog X.w) X.A (do rule "assign.swapped-stores"; let items ← unpackItems (.ref s1.heap.objs.size) 2 none; assignInOrder [fun v => bindName X.env y v, fun v => bindName X.env x v] items.reverse; pure Flow.next) _ _ _
  refine wpAny_bind (wpAny_rule (wpAny_bind (unpackItems_tuple (items := #[u1, u2]) (I.ok.hd hc) (IsTup.new s1.heap _) fun h' hx' => ?_)))
  have I3 := I2.kept (h' := h') (t' := s1.toks) fun b o e => hx' b o (Nat.ne_of_lt (Heap.lt_size e)) e
  show wpAny _ _ (assignInOrder [fun v => bindName X.env y v, fun v => bindName X.env x v] [u2, u1] >>= fun _ => pure Flow.next) _ _ _
  refine wpAny_bind (assignInOrder_cons (wpAny_bindName (store_ok I3 hN hj (.inl hy) rw' (fun s2 I4 => ?_) (.inr hy))))
  refine assignInOrder_cons (wpAny_bindName (store_ok I4 hN hi (.inl hx) rv (fun s3 I5 => assignInOrder_nil (wpAny_pure ?_)) (.inr hx)))
  rw [List.set_comm _ _ (Ne.symm hij)] at I5
  exact ⟨_, H1, I5, q1⟩
end
section
variable {X : Cx} {pos : Pos}
def tWhile (c : TT) (tb : TS) : TS := fun D σ H => ∃ W : Nat → St → Hp → Prop, (∃ m, W m σ H) ∧ ∀ m σ H, W m σ H →
  c σ H fun b H1 => if b = true then ∃ N : St → Hp → Prop, (∀ σ' H', N σ' H' → ∃ m', m' < m ∧ W m' σ' H') ∧ tb { D with nx := N, ct := N, bk := D.nx } σ H1 else D.nx σ H1
theorem ps_while {c : Expr} {body : List Stmt} {tc : TT} {tb : TS} (hp : PassesOwn (model X.prog X.w) X.A X.env X.xe) (hc : PT X c tc) (hb : PSs X body tb) : PS X (.While c body [] pos) (tWhile tc tb) := by
  intro pins s σ H D I h
  obtain ⟨W, ⟨m0, w0⟩, turn⟩ := h
  refine wpAny_While (codeAny_whileLoop (fun n s' => ∃ σ' H', Inv X pins σ' H' s' ∧ W n σ' H') ?_ m0 ⟨σ, H, I, w0⟩)
  rintro n s1 ⟨σ1, H1, I1, w1⟩
  refine wpAny_passesOwn hp (thn (hc pins s1 σ1 H1 _ I1 (turn n σ1 H1 w1)) fun b s2 ⟨H2, I2, q2⟩ => ?_)
  cases b with
  | true =>
    obtain ⟨N, hN, q2⟩ := q2
    rw [if_pos rfl]
    refine wpAny_passesOwn hp (thn (hb pins s2 σ1 H2 _ I2 q2) fun f s3 q3 => ?_)
    cases f with
    | next =>
      obtain ⟨σ3, H3, I3, n3⟩ := q3
      obtain ⟨m', hm, w3⟩ := hN σ3 H3 n3
      exact ⟨m', hm, σ3, H3, I3, w3⟩
    | cont =>
      obtain ⟨σ3, H3, I3, n3⟩ := q3
      obtain ⟨m', hm, w3⟩ := hN σ3 H3 n3
      exact ⟨m', hm, σ3, H3, I3, w3⟩
    | brk => exact q3
    | ret v => exact q3
  | false =>
    rw [if_neg Bool.false_ne_true]
    exact wpAny_execs_nil ⟨σ1, H2, I2, q2⟩
end
structure It where
  go : Nat → Hp → Prop
  yld : Nat → Hp → V → Hp → Prop
  stop : Nat → Hp → Prop
def FpOk (X : Cx) (pins : List (Addr × Obj)) (H : Hp) (b : Addr) : Prop :=
  H b = none ∧ b ≠ X.env.locals ∧ b ∉ X.fs ∧ (b ∈ X.ex ∨ X.s₀.heap.objs.size ≤ b) ∧ (∀ x c, X.env.cells.lookup x = some c → c ≠ b) ∧ ∀ p ∈ X.pn ++ pins, p.1 ≠ b
theorem Inv.fpOk {X : Cx} {pins : List (Addr × Obj)} {σ : St} {H H' : Hp} {s : Shared} {b : Addr} (I : Inv X pins σ H s) (hb : s.heap.objs.size ≤ b) (hn : H' b = none) : FpOk X pins H' b := by
  refine ⟨hn, Nat.ne_of_gt (Nat.lt_of_lt_of_le I.lt hb), I.nofs hb, .inr (Nat.le_trans I.sz hb), fun x c e z => ?_, fun p hp z => ?_⟩
  · obtain ⟨v, q⟩ := I.cell x c e
    exact absurd (Nat.lt_of_lt_of_le q.lt (by rw [z]; exact hb)) (Nat.lt_irrefl _)
  · exact absurd (Nat.lt_of_lt_of_le (Heap.lt_size (I.pin p hp).1) (by rw [z]; exact hb)) (Nat.lt_irrefl _)
structure Turn (P : Program) (w : World) (K : PySem.W.Frag) (tg : Expr) (J : It) (fp : List Addr) (it : Addr) (tn : Nat → Heap → Prop) : Prop where
  mem : it ∈ fp
  obj : ∀ i h, tn i h → ∀ b ∈ fp, ∃ o, h.get? b = some o ∧ ∀ v, o.data ≠ .cell v
  keep : ∀ i h h', tn i h → (∀ b ∈ fp, ∀ o, h.get? b = some o → h'.get? b = some o) → tn i h'
  item : ∀ (X : Cx), X.prog = P → X.w = w → X.K = K → X.calm = true → ∀ (i : Nat) (pins : List (Addr × Obj)) (s : Shared) (σ : St) (H : Hp) (E : Value → Shared → Prop), Inv X pins σ H s → (∀ b ∈ fp, FpOk X pins H b) → tn i s.heap → J.go i H →
    wpAny (model P w) X.A (pyNext (.ref it)) (fun r s1 => ∃ u, r = some u ∧
      wpAny (model P w) X.A (letOwnedTupleGo tg (.ref it) u) (fun _ s2 => ∃ x H', Inv X pins σ H' s2 ∧ RelV x u ∧ J.yld i H x H' ∧ tn (i + 1) s2.heap ∧ ∀ b ∈ fp, H' b = none) E s1) E s
  done : ∀ (X : Cx), X.prog = P → X.w = w → X.K = K → X.calm = true → ∀ (i : Nat) (pins : List (Addr × Obj)) (s : Shared) (σ : St) (H : Hp) (E : Value → Shared → Prop), Inv X pins σ H s → (∀ b ∈ fp, FpOk X pins H b) → tn i s.heap → J.stop i H →
    wpAny (model P w) X.A (pyNext (.ref it)) (fun r s1 => r = none ∧ Inv X pins σ H s1) E s
  self : ∀ (A : Around) (i : Nat) (s : Shared) (Q : Value → Shared → Prop) (E : Value → Shared → Prop), tn i s.heap → Q (.ref it) s → wpAny (model P w) A (pyIter (.ref it)) Q E s
abbrev TI := St → Hp → (It → Hp → Prop) → Prop
def PIE (X : Cx) (pins : List (Addr × Obj)) (σ : St) (tg : Expr) (R : It → Hp → Prop) (itv : Value) (s2 : Shared) : Prop :=
  ∃ (it : Addr) (fp : List Addr) (tn : Nat → Heap → Prop) (J : It) (H' : Hp), itv = .ref it ∧ Inv X pins σ H' s2 ∧ Turn X.prog X.w X.K tg J fp it tn ∧ tn 0 s2.heap ∧ (∀ b ∈ fp, FpOk X pins H' b) ∧ R J H'
def PI (X : Cx) (tg iter : Expr) (wi : TI) : Prop :=
  ∀ (pins : List (Addr × Obj)) (s : Shared) (σ : St) (H : Hp) (R : It → Hp → Prop), Inv X pins σ H s → wi σ H R →
    wpAny (model X.prog X.w) X.A (eval iter X.env) (fun v s1 => wpAny (model X.prog X.w) X.A (pyIter v) (PIE X pins σ tg R) X.xe s1) X.xe s
theorem go_of {M : Model} {A : Around} {E : Value → Shared → Prop} {s : Shared} {tg : Expr} {it : Addr} {u : Value} {o : Obj} {n : String} {vs : Array Value} {Q : Unit → Shared → Prop} (ho : s.heap.get? it = some o) (hc : o.cls = .type n) (hd : o.data = .fields vs)
    (hn : ["enumerate", "zip", "dict_itemiterator", "dict_reverseitemiterator", "odict_iterator", "itertools.zip_longest", "itertools.pairwise"].contains n = false) (hQ : Q () s) : wpAny M A (letOwnedTupleGo tg (.ref it) u) Q E s := by
  unfold letOwnedTupleGo
  cases tg <;> first
    | exact wpAny_pure hQ
    | (cases u <;> first
        | exact wpAny_pure hQ
        | (refine wpAny_bind (wpAny_load ho ?_)
           rw [hc, hd]
           show wpAny M A (if (["enumerate", "zip", "dict_itemiterator", "dict_reverseitemiterator", "odict_iterator", "itertools.zip_longest", "itertools.pairwise"].contains n && vs[0]? == some (rawInt _)) = true then _ else _) Q E s
           rw [if_neg (by intro h; rw [hn, Bool.false_and] at h; cases h)]
           exact wpAny_pure hQ))
def Itl (K : PySem.W.Frag) (a : Addr) : It :=
  ⟨fun i H => ∃ xs x, SqL K H a xs ∧ xs[i]? = some x, fun i H x H' => H' = H ∧ ∀ xs, SqL K H a xs → xs[i]? = some x, fun i H => ∃ xs, SqL K H a xs ∧ xs.length ≤ i⟩
def Itt (K : PySem.W.Frag) (a : Addr) : It :=
  ⟨fun i H => ∃ xs x, SqT K H a xs ∧ xs[i]? = some x, fun i H x H' => H' = H ∧ ∀ xs, SqT K H a xs → xs[i]? = some x, fun i H => ∃ xs, SqT K H a xs ∧ xs.length ≤ i⟩
def Itr (lo : Int) (n : Nat) : It := ⟨fun i _ => i < n, fun i H x H' => H' = H ∧ x = .int (lo + i), fun i _ => n ≤ i⟩
theorem turn_list {P : Program} {w : World} {K : PySem.W.Frag} {tg : Expr} (a it : Addr) : Turn P w K tg (Itl K a) [it] it (fun i h => h.IsListIter it a i) where
  mem := by simp
  obj := fun i h st b hb => by
    have e : b = it := by simpa using hb
    subst e
    obtain ⟨o, e, c, d⟩ := st
    exact ⟨o, e, fun v z => by rw [d] at z; cases z⟩
  keep := fun i h h' st k => st.at fun o e => k it (by simp) o e
  item := by
    intro X hP hw hK hc i pins s σ H E I hf st hg
    subst hP hw hK
    obtain ⟨xs, x, hq, hx⟩ := hg
    obtain ⟨its, rv, p, hz⟩ := I.list hq
    obtain ⟨u, hu, ru⟩ := rv.get hx
    obtain ⟨f0, f1, f2, f3, f4, f5⟩ := hf it (by simp)
    refine wpAny_pyNext_list_item st p.isList (x := u) (by simpa using hu) fun h' st' sb => ?_
    have I1 : Inv X pins σ H { s with heap := h' } := I.turned (t' := s.toks) (fun b o hb e => (sb.2 b hb).trans e) f0 f1 f3 f4 f5
    obtain ⟨o, e, c, d⟩ := id st'
    exact ⟨u, rfl, go_of (s := { s with heap := h' }) e c d (by decide) ⟨x, H, I1, ru, ⟨rfl, fun ys hy => by rw [I.list_inj hy hq]; exact hx⟩, st', fun b hb => (hf b hb).1⟩⟩
  done := by
    intro X hP hw hK hc i pins s σ H E I hf st hg
    subst hP hw hK
    obtain ⟨xs, hq, hx⟩ := hg
    obtain ⟨its, rv, p, hz⟩ := I.list hq
    obtain ⟨f0, f1, f2, f3, f4, f5⟩ := hf it (by simp)
    have hl := rv.length
    exact wpAny_pyNext_list_end (I.ok.hd hc) st p.isList (by simp; omega) fun h' eb => ⟨rfl, I.turned (t' := s.toks) (fun b o hb e => eb b o hb e) f0 f1 f3 f4 f5⟩
  self := fun _ _ _ _ _ st h => wpAny_pyIter_listiter st h
theorem turn_tuple {P : Program} {w : World} {K : PySem.W.Frag} {tg : Expr} (a it : Addr) : Turn P w K tg (Itt K a) [it] it (fun i h => h.IsTupleIter it a i) where
  mem := by simp
  obj := fun i h st b hb => by
    have e : b = it := by simpa using hb
    subst e
    obtain ⟨o, e, c, d⟩ := st
    exact ⟨o, e, fun v z => by rw [d] at z; cases z⟩
  keep := fun i h h' st k => st.at fun o e => k it (by simp) o e
  item := by
    intro X hP hw hK hc i pins s σ H E I hf st hg
    subst hP hw hK
    obtain ⟨xs, x, hq, hx⟩ := hg
    obtain ⟨its, rv, p, hz⟩ := I.tuple hq
    obtain ⟨u, hu, ru⟩ := rv.get hx
    obtain ⟨f0, f1, f2, f3, f4, f5⟩ := hf it (by simp)
    refine wpAny_pyNext_tuple_item st (show s.heap.IsTuple a its.toArray from p) (x := u) (by simpa using hu) fun h' st' sb => ?_
    have I1 : Inv X pins σ H { s with heap := h' } := I.turned (t' := s.toks) (fun b o hb e => (sb.2 b hb).trans e) f0 f1 f3 f4 f5
    obtain ⟨o, e, c, d⟩ := id st'
    exact ⟨u, rfl, go_of (s := { s with heap := h' }) e c d (by decide) ⟨x, H, I1, ru, ⟨rfl, fun ys hy => by rw [I.tuple_inj hy hq]; exact hx⟩, st', fun b hb => (hf b hb).1⟩⟩
  done := by
    intro X hP hw hK hc i pins s σ H E I hf st hg
    subst hP hw hK
    obtain ⟨xs, hq, hx⟩ := hg
    obtain ⟨its, rv, p, hz⟩ := I.tuple hq
    obtain ⟨f0, f1, f2, f3, f4, f5⟩ := hf it (by simp)
    have hl := rv.length
    exact wpAny_pyNext_tuple_end (I.ok.hd hc) st (show s.heap.IsTuple a its.toArray from p) (by simp; omega) fun h' eb => ⟨rfl, I.turned (t' := s.toks) (fun b o hb e => eb b o hb e) f0 f1 f3 f4 f5⟩
  self := fun _ _ _ _ _ st h => wpAny_pyIter_tupleiter st h
theorem turn_range {P : Program} {w : World} {K : PySem.W.Frag} {tg : Expr} (it : Addr) (lo : Int) (n : Nat) : Turn P w K tg (Itr lo n) [it] it (fun i h => IsRangeIter h it (lo + (i : Nat) * 1) ((n : Int) - (i : Nat)) 1) where
  mem := by simp
  obj := fun i h st b hb => by
    have e : b = it := by simpa using hb
    subst e
    exact ⟨_, st, fun v z => by
      have z' : Data.fields _ = Data.cell v := z
      cases z'⟩
  keep := fun i h h' st k => k it (by simp) _ st
  item := by
    intro X hP hw hK hc i pins s σ H E I hf st hg
    subst hP hw hK
    obtain ⟨f0, f1, f2, f3, f4, f5⟩ := hf it (by simp)
    have W := Walks.range (prog := X.prog) (w := X.w) (I.ok.hd hc) it lo 1 n
    refine W.item i s _ _ hg st fun v h' tk hv st' kk => ?_
    obtain ⟨t, rfl⟩ := hv
    have I1 : Inv X pins σ H { s with heap := h', toks := tk } := I.turned (fun b o hb e => kk b o (by simpa using hb) e) f0 f1 f3 f4 f5
    refine ⟨_, rfl, go_of (s := { s with heap := h', toks := tk }) (n := "range_iterator") st' rfl rfl (by decide) ⟨.int (lo + i), H, I1, ⟨t, ?_⟩, ⟨rfl, rfl⟩, st', fun b hb => (hf b hb).1⟩⟩
    rw [Int.mul_one]
  done := by
    intro X hP hw hK hc i pins s σ H E I hf st hg
    subst hP hw hK
    obtain ⟨f0, f1, f2, f3, f4, f5⟩ := hf it (by simp)
    exact wpAny_pyNext_range_end (I.ok.hd hc) st (by have : n ≤ i := hg; omega) fun h' eb => ⟨rfl, I.turned (t' := s.toks) (fun b o hb e => eb b o hb e) f0 f1 f3 f4 f5⟩
  self := fun _ _ _ _ _ st h => wpAny_pyIter_rangeiter st h
end L2
namespace L2
open PySem PySem.Spec PyProof.Rows
section
variable {X : Cx} {tg : Expr}
def iList (K : PySem.W.Frag) (tl : TE) : TI := fun σ H R => tl σ H fun x H1 => ∃ a, x = .ref a ∧ (∃ xs, SqL K H1 a xs) ∧ R (Itl K a) H1
def iTup (K : PySem.W.Frag) (tl : TE) : TI := fun σ H R => tl σ H fun x H1 => ∃ a, x = .ref a ∧ (∃ xs, SqT K H1 a xs) ∧ R (Itt K a) H1
theorem pi_list {l : Expr} {tl : TE} (hl : PE X l tl) : PI X tg l (iList X.K tl) := by
  intro pins s σ H R I h
  refine thn (hl pins s σ H _ I h) fun v s1 ⟨x, H1, I1, r1, q1⟩ => ?_
  obtain ⟨a, e, ⟨xs, hq⟩, q⟩ := q1
  subst e
  cases r1
  obtain ⟨its, rv, p, hz⟩ := I1.list hq
  refine wpAny_pyIter_list p.isList ?_
  refine ⟨s1.heap.objs.size, [s1.heap.objs.size], _, _, H1, rfl, I1.kept (t' := s1.toks) fun b o e => Heap.get?_push_of_some _ e, turn_list a _, ⟨_, Heap.get?_push_size _ rfl, rfl, rfl⟩, fun b hb => ?_, q⟩
  have e : b = s1.heap.objs.size := by simpa using hb
  subst e
  exact I1.fpOk (Nat.le_refl _) (I1.hok.fresh (Nat.le_refl _))
theorem pi_tup {l : Expr} {tl : TE} (hl : PE X l tl) : PI X tg l (iTup X.K tl) := by
  intro pins s σ H R I h
  refine thn (hl pins s σ H _ I h) fun v s1 ⟨x, H1, I1, r1, q1⟩ => ?_
  obtain ⟨a, e, ⟨xs, hq⟩, q⟩ := q1
  subst e
  cases r1
  obtain ⟨its, rv, p, hz⟩ := I1.tuple hq
  refine wpAny_pyIter_tuple (show s1.heap.IsTuple a its.toArray from p) ?_
  refine ⟨s1.heap.objs.size, [s1.heap.objs.size], _, _, H1, rfl, I1.kept (t' := s1.toks) fun b o e => Heap.get?_push_of_some _ e, turn_tuple a _, ⟨_, Heap.get?_push_size _ rfl, rfl, rfl⟩, fun b hb => ?_, q⟩
  have e : b = s1.heap.objs.size := by simpa using hb
  subst e
  exact I1.fpOk (Nat.le_refl _) (I1.hok.fresh (Nat.le_refl _))
theorem range_it {pins : List (Addr × Obj)} {σ : St} {H : Hp} {s : Shared} {R : It → Hp → Prop} {E : Value → Shared → Prop} {lo hi : Int} {t u v : Tok} {tk : Nat} (I : Inv X pins σ H s) (h1 : -(2 ^ 62) ≤ lo) (h2 : lo < 2 ^ 62) (h3 : -(2 ^ 62) ≤ hi) (h4 : hi < 2 ^ 62)
    (q : R (Itr lo (hi - lo).toNat) H) : wpAny (model X.prog X.w) X.A (pyIter (.ref s.heap.objs.size)) (PIE X pins σ tg R) E { s with heap := s.heap.push { cls := .type "range", data := .fields #[.int lo t, .int hi u, .int 1 v] }, toks := tk } := by
  refine wpAny_pyIter_range (IsRange.new ..) (small_one h1 h2 h3 h4) ?_
  have I1 : Inv X pins σ H { s with heap := s.heap.push { cls := .type "range", data := .fields #[.int lo t, .int hi u, .int 1 v] }, toks := tk } := I.kept fun b o e => Heap.get?_push_of_some _ e
  refine ⟨(s.heap.push { cls := .type "range", data := .fields #[.int lo t, .int hi u, .int 1 v] }).objs.size, [(s.heap.push { cls := .type "range", data := .fields #[.int lo t, .int hi u, .int 1 v] }).objs.size], _, _, H, rfl,
    I1.kept (t' := tk) fun b o e => Heap.get?_push_of_some _ e, turn_range _ lo (hi - lo).toNat, ?_, fun b hb => ?_, q⟩
  · have e1 : lo + ((0 : Nat) : Int) * 1 = lo := by simp
    have e2 : (((hi - lo).toNat : Nat) : Int) - ((0 : Nat) : Int) = Builtin.Range.rangeSize lo hi 1 := by rw [rangeSize_one]; split <;> omega
    show IsRangeIter _ _ (lo + ((0 : Nat) : Int) * 1) ((((hi - lo).toNat : Nat) : Int) - ((0 : Nat) : Int)) 1
    rw [e1, e2]
    exact Heap.get?_push_size _ rfl
  · have e : b = (s.heap.push { cls := .type "range", data := .fields #[.int lo t, .int hi u, .int 1 v] }).objs.size := by simpa using hb
    subst e
    exact I1.fpOk (Nat.le_refl _) (I1.hok.fresh (Nat.le_refl _))
def iRng1 (ta : TA) : TI := fun σ H R => ta σ H fun vs H1 => ∃ j : Int, vs = [.int j] ∧ -(2 ^ 62) ≤ j ∧ j < 2 ^ 62 ∧ R (Itr 0 j.toNat) H1
def iRng2 (ta : TA) : TI := fun σ H R => ta σ H fun vs H1 => ∃ i j : Int, vs = [.int i, .int j] ∧ (-(2 ^ 62) ≤ i ∧ i < 2 ^ 62 ∧ -(2 ^ 62) ≤ j ∧ j < 2 ^ 62) ∧ R (Itr i (j - i).toNat) H1
theorem pi_range1 {a : Expr} {ta : TA} {p pos : Pos} (hg : Gl X "range") (hm : X.mg "range" = none) (ha : PA X [a] ta) (hs : starEach [a] X.env = [(false, eval a X.env)] := by rfl) : PI X tg (.Call (.Name "range" p) [a] [] pos) (iRng1 ta) := by
  intro pins s σ H R I h
  refine Call_ (ld_blt I hg hm boot_range (PyProof.Rows.callWith_type1 (thn (ha pos pins s σ H _ I h) fun us s1 ⟨vs, H1, I1, r1, q1⟩ => ?_) hs rfl))
  obtain ⟨j, e, q1, q2, q⟩ := q1
  subst e
  cases r1 with
  | cons r rr =>
    cases rr
    obtain ⟨t, rfl⟩ := r
    exact call_range_1 (range_it I1 (by omega) (by omega) q1 q2 (by simpa using q))
theorem pi_range2 {a b : Expr} {ta : TA} {p pos : Pos} (hg : Gl X "range") (hm : X.mg "range" = none) (ha : PA X [a, b] ta) (hs : starEach [a, b] X.env = [(false, eval a X.env), (false, eval b X.env)] := by rfl) (hs2 : starEach [b] X.env = [(false, eval b X.env)] := by rfl) :
    PI X tg (.Call (.Name "range" p) [a, b] [] pos) (iRng2 ta) := by
  intro pins s σ H R I h
  refine Call_ (ld_blt I hg hm boot_range (PyProof.Rows.callWith_type1 (thn (ha pos pins s σ H _ I h) fun us s1 ⟨vs, H1, I1, r1, q1⟩ => ?_) (by rw [hs, hs2]) (by rw [hs2]; rfl)))
  obtain ⟨i, j, e, ⟨q1, q2, q3, q4⟩, q⟩ := q1
  subst e
  cases r1 with
  | cons r rr =>
    cases rr with
    | cons r' rr =>
      cases rr
      obtain ⟨t, rfl⟩ := r
      obtain ⟨t', rfl⟩ := r'
      exact call_range_2 (range_it I1 q1 q2 q3 q4 q)
def tFor (wi : TI) (g : TG) (tb : TS) : TS := fun D σ H => wi σ H fun J H1 => ∃ W : Nat → Nat → St → Hp → Prop, (∃ m, W 0 m σ H1) ∧ ∀ i m σ H, W i m σ H →
  (J.stop i H ∧ D.nx σ H) ∨ (J.go i H ∧ ∃ N : St → Hp → Prop, (∀ σ' H', N σ' H' → ∃ m', m' < m ∧ W (i + 1) m' σ' H') ∧ ∀ x H', J.yld i H x H' → g x σ H' fun σ2 H2 => tb { D with nx := N, ct := N, bk := D.nx } σ2 H2)
def pinsAt (fp : List Addr) (h : Heap) : List (Addr × Obj) := fp.filterMap fun b => (h.get? b).map fun o => (b, o)
theorem mem_pinsAt {fp : List Addr} {h : Heap} {b : Addr} {o : Obj} (hb : b ∈ fp) (e : h.get? b = some o) : (b, o) ∈ pinsAt fp h := List.mem_filterMap.mpr ⟨b, hb, by rw [e]; rfl⟩
theorem of_pinsAt {fp : List Addr} {h : Heap} {p : Addr × Obj} (hp : p ∈ pinsAt fp h) : p.1 ∈ fp ∧ h.get? p.1 = some p.2 := by
  obtain ⟨b, hb, e⟩ := List.mem_filterMap.mp hp
  cases q : h.get? b with
  | none => rw [q] at e; cases e
  | some o =>
    rw [q] at e
    have e' : (b, o) = p := Option.some.inj e
    subst e'
    exact ⟨hb, q⟩
theorem Inv.pinned {pins : List (Addr × Obj)} {σ : St} {H : Hp} {s : Shared} {fp : List Addr} (I : Inv X pins σ H s) (hf : ∀ b ∈ fp, FpOk X pins H b) (ho : ∀ b ∈ fp, ∃ o, s.heap.get? b = some o ∧ ∀ v, o.data ≠ .cell v) : Inv X (pins ++ pinsAt fp s.heap) σ H s :=
  I.pins_of fun p hp => (List.mem_append.mp hp).elim (fun z => I.pin p (List.mem_append_right _ z)) fun z => by
    obtain ⟨hb, e⟩ := of_pinsAt z
    obtain ⟨f0, f1, f2, _⟩ := hf p.1 hb
    obtain ⟨o, e', d⟩ := ho p.1 hb
    rw [e] at e'; cases e'
    exact ⟨e, f0, f1, f2, d⟩
theorem Inv.unpinned {pins pl : List (Addr × Obj)} {σ : St} {H : Hp} {s : Shared} (I : Inv X (pins ++ pl) σ H s) : Inv X pins σ H s := I.pins_of fun p hp => I.pin p (List.mem_append_right _ (List.mem_append_left _ hp))
theorem ps_for {iter : Expr} {body : List Stmt} {wi : TI} {g : TG} {tb : TS} {pos : Pos} (hp : PassesOwn (model X.prog X.w) X.A X.env X.xe) (hc : X.calm = true) (hi : PI X tg iter wi) (hg : PG X tg g) (hb : PSs X body tb)
    (hs : ∀ x, foldedSetIterable iter X.env x = pure x := by intro _; rfl) : PS X (.For tg iter body [] pos) (tFor wi g tb) := by
  intro pins s σ H D I h
  refine wpAny_For (thn (hi pins s σ H _ I h) fun v s1 h1 => thn h1 fun itv s2 h2 => ?_) hs
  obtain ⟨it, fp, tn, J, H2, e, I2, T, st2, f2, W, ⟨m0, w0⟩, turn⟩ := h2
  subst e
  have stat : ∀ {H' : Hp}, (∀ b ∈ fp, H' b = none) → ∀ b ∈ fp, FpOk X pins H' b := fun hn b hb => ⟨hn b hb, (f2 b hb).2⟩
  refine codeAny_forLoop_any (fun n s' => ∃ i σ' H', Inv X pins σ' H' s' ∧ tn i s'.heap ∧ (∀ b ∈ fp, H' b = none) ∧ W i n σ' H') ?_ m0 ⟨0, σ, H2, I2, st2, fun b hb => (f2 b hb).1, w0⟩
  rintro n s3 ⟨i, σ3, H3, I3, st3, fr3, w3⟩
  rcases turn i n σ3 H3 w3 with ⟨stop, qn⟩ | ⟨go, N, hN, step⟩
  · refine wpAny_passesOwn hp (thn (T.done X rfl rfl rfl hc i pins s3 σ3 H3 X.xe I3 (stat fr3) st3 stop) fun r s4 ⟨hr, I4⟩ => ?_)
    subst hr
    exact wpAny_execs_nil ⟨σ3, H3, I4, qn⟩
  · refine wpAny_passesOwn hp (thn (T.item X rfl rfl rfl hc i pins s3 σ3 H3 X.xe I3 (stat fr3) st3 go) fun r s4 ⟨u, hr, h4⟩ => ?_)
    subst hr
    refine wpAny_passesOwn hp (thn h4 fun _ s5 ⟨x, H5, I5, r5, y5, st5, fr5⟩ => ?_)
    have I5' := I5.pinned (stat fr5) (T.obj _ _ st5)
    refine wpAny_passesOwn hp (thn (hg _ s5 σ3 H5 x u _ I5' r5 (step x H5 y5)) fun _ s6 ⟨σ6, H6, I6, q6⟩ => ?_)
    refine wpAny_passesOwn hp (thn (hb _ s6 σ6 H6 _ I6 q6) fun f s7 q7 => ?_)
    have again : ∀ {σ7 : St} {H7 : Hp}, Inv X (pins ++ pinsAt fp s5.heap) σ7 H7 s7 → N σ7 H7 → ∃ m, m < n ∧ ∃ i σ' H', Inv X pins σ' H' s7 ∧ tn i s7.heap ∧ (∀ b ∈ fp, H' b = none) ∧ W i m σ' H' := fun {σ7 H7} I7 n7 => by
      obtain ⟨m', hm, w7⟩ := hN σ7 H7 n7
      refine ⟨m', hm, i + 1, σ7, H7, I7.unpinned, T.keep _ _ _ st5 fun b hb o e => (I7.pin (b, o) (List.mem_append_right _ (List.mem_append_right _ (mem_pinsAt hb e)))).1, fun b hb => ?_, w7⟩
      obtain ⟨o, e, d⟩ := T.obj _ _ st5 b hb
      exact (I7.pin (b, o) (List.mem_append_right _ (List.mem_append_right _ (mem_pinsAt hb e)))).2.1
    cases f with
    | next => obtain ⟨σ7, H7, I7, n7⟩ := q7; exact again I7 n7
    | cont => obtain ⟨σ7, H7, I7, n7⟩ := q7; exact again I7 n7
    | brk => obtain ⟨σ7, H7, I7, q7⟩ := q7; exact ⟨σ7, H7, I7.unpinned, q7⟩
    | ret v => obtain ⟨x7, σ7, H7, I7, r7, q7⟩ := q7; exact ⟨x7, σ7, H7, I7.unpinned, r7, q7⟩
end
theorem for_list {K : PySem.W.Frag} {a : Addr} {xs : List V} {g : TG} {tb : TS} {D : Ends} {σ : St} {H : Hp} (Pv : Nat → St → Hp → Prop) (h0 : Pv 0 σ H) (hl : ∀ i σ H, i ≤ xs.length → Pv i σ H → SqL K H a xs)
    (hs : ∀ i x σ H, xs[i]? = some x → Pv i σ H → g x σ H fun σ2 H2 => tb { D with nx := Pv (i + 1), ct := Pv (i + 1), bk := D.nx } σ2 H2) (hd : ∀ σ H, Pv xs.length σ H → D.nx σ H) :
    ∃ W : Nat → Nat → St → Hp → Prop, (∃ m, W 0 m σ H) ∧ ∀ i m σ H, W i m σ H →
      ((Itl K a).stop i H ∧ D.nx σ H) ∨ ((Itl K a).go i H ∧ ∃ N : St → Hp → Prop, (∀ σ' H', N σ' H' → ∃ m', m' < m ∧ W (i + 1) m' σ' H') ∧ ∀ x H', (Itl K a).yld i H x H' → g x σ H' fun σ2 H2 => tb { D with nx := N, ct := N, bk := D.nx } σ2 H2) := by
  refine ⟨fun i m σ H => m = xs.length - i ∧ i ≤ xs.length ∧ Pv i σ H, ⟨xs.length, by simp, Nat.zero_le _, h0⟩, ?_⟩
  rintro i m σ H ⟨rfl, hi, p⟩
  have q := hl i σ H hi p
  by_cases hlt : i < xs.length
  · refine .inr ⟨⟨xs, xs[i], q, by simp [hlt]⟩, Pv (i + 1), fun σ' H' p' => ⟨xs.length - (i + 1), by omega, rfl, hlt, p'⟩, fun x H' y => ?_⟩
    obtain ⟨e, y⟩ := y
    subst e
    exact hs i x σ _ (y xs q) p
  · have e : i = xs.length := by omega
    subst e
    exact .inl ⟨⟨xs, q, Nat.le_refl _⟩, hd σ H p⟩
theorem for_tup {K : PySem.W.Frag} {a : Addr} {xs : List V} {g : TG} {tb : TS} {D : Ends} {σ : St} {H : Hp} (Pv : Nat → St → Hp → Prop) (h0 : Pv 0 σ H) (hl : ∀ i σ H, i ≤ xs.length → Pv i σ H → SqT K H a xs)
    (hs : ∀ i x σ H, xs[i]? = some x → Pv i σ H → g x σ H fun σ2 H2 => tb { D with nx := Pv (i + 1), ct := Pv (i + 1), bk := D.nx } σ2 H2) (hd : ∀ σ H, Pv xs.length σ H → D.nx σ H) :
    ∃ W : Nat → Nat → St → Hp → Prop, (∃ m, W 0 m σ H) ∧ ∀ i m σ H, W i m σ H →
      ((Itt K a).stop i H ∧ D.nx σ H) ∨ ((Itt K a).go i H ∧ ∃ N : St → Hp → Prop, (∀ σ' H', N σ' H' → ∃ m', m' < m ∧ W (i + 1) m' σ' H') ∧ ∀ x H', (Itt K a).yld i H x H' → g x σ H' fun σ2 H2 => tb { D with nx := N, ct := N, bk := D.nx } σ2 H2) := by
  refine ⟨fun i m σ H => m = xs.length - i ∧ i ≤ xs.length ∧ Pv i σ H, ⟨xs.length, by simp, Nat.zero_le _, h0⟩, ?_⟩
  rintro i m σ H ⟨rfl, hi, p⟩
  have q := hl i σ H hi p
  by_cases hlt : i < xs.length
  · refine .inr ⟨⟨xs, xs[i], q, by simp [hlt]⟩, Pv (i + 1), fun σ' H' p' => ⟨xs.length - (i + 1), by omega, rfl, hlt, p'⟩, fun x H' y => ?_⟩
    obtain ⟨e, y⟩ := y
    subst e
    exact hs i x σ _ (y xs q) p
  · have e : i = xs.length := by omega
    subst e
    exact .inl ⟨⟨xs, q, Nat.le_refl _⟩, hd σ H p⟩
theorem for_range {lo : Int} {n : Nat} {g : TG} {tb : TS} {D : Ends} {σ : St} {H : Hp} (Pv : Nat → St → Hp → Prop) (h0 : Pv 0 σ H)
    (hs : ∀ i σ H, i < n → Pv i σ H → g (.int (lo + i)) σ H fun σ2 H2 => tb { D with nx := Pv (i + 1), ct := Pv (i + 1), bk := D.nx } σ2 H2) (hd : ∀ σ H, Pv n σ H → D.nx σ H) :
    ∃ W : Nat → Nat → St → Hp → Prop, (∃ m, W 0 m σ H) ∧ ∀ i m σ H, W i m σ H →
      ((Itr lo n).stop i H ∧ D.nx σ H) ∨ ((Itr lo n).go i H ∧ ∃ N : St → Hp → Prop, (∀ σ' H', N σ' H' → ∃ m', m' < m ∧ W (i + 1) m' σ' H') ∧ ∀ x H', (Itr lo n).yld i H x H' → g x σ H' fun σ2 H2 => tb { D with nx := N, ct := N, bk := D.nx } σ2 H2) := by
  refine ⟨fun i m σ H => m = n - i ∧ i ≤ n ∧ Pv i σ H, ⟨n, by simp, Nat.zero_le _, h0⟩, ?_⟩
  rintro i m σ H ⟨rfl, hi, p⟩
  by_cases hlt : i < n
  · refine .inr ⟨hlt, Pv (i + 1), fun σ' H' p' => ⟨n - (i + 1), by omega, rfl, hlt, p'⟩, fun x H' y => ?_⟩
    obtain ⟨e, y⟩ := y
    subst e y
    exact hs i σ _ hlt p
  · have e : i = n := by omega
    subst e
    exact .inl ⟨Nat.le_refl _, hd σ H p⟩
end L2
namespace L2
open PySem PySem.Spec PyProof.Rows
abbrev R2 := V → V → Hp → VK → Prop
def OpR (X : Cx) (f : Value → Value → Sem Value) (r : R2) : Prop :=
  ∀ (pins : List (Addr × Obj)) (s : Shared) (σ : St) (H : Hp) (x y : V) (v u : Value) (Q : VK), Inv X pins σ H s → RelV x v → RelV y u → r x y H Q →
    wpAny (model X.prog X.w) X.A (f v u) (EP X pins σ Q) X.xe s
def UnR (X : Cx) (f : Value → Sem Value) (r : V → Hp → VK → Prop) : Prop :=
  ∀ (pins : List (Addr × Obj)) (s : Shared) (σ : St) (H : Hp) (x : V) (v : Value) (Q : VK), Inv X pins σ H s → RelV x v → r x H Q →
    wpAny (model X.prog X.w) X.A (f v) (EP X pins σ Q) X.xe s
def CallR (X : Cx) (f : Value) (r : List V → Hp → VK → Prop) : Prop :=
  ∀ (pins : List (Addr × Obj)) (s : Shared) (σ : St) (H : Hp) (xs : List V) (us : List Value) (Q : VK), Inv X pins σ H s → Vals xs us → r xs H Q →
    wpAny (model X.prog X.w) X.A (call f us) (EP X pins σ Q) X.xe s
def tOp (r : R2) (ta tb : TE) : TE := fun σ H Q => ta σ H fun x H1 => tb σ H1 fun y H2 => r x y H2 Q
def tUn (r : V → Hp → VK → Prop) (ta : TE) : TE := fun σ H Q => ta σ H fun x H1 => r x H1 Q
def rI (C : Int → Int → Prop) (g : Int → Int → V) : R2 := fun x y H Q => ∃ i j, x = .int i ∧ y = .int j ∧ C i j ∧ Q (g i j) H
def rI0 (g : Int → Int → V) : R2 := fun x y H Q => ∃ i j, x = .int i ∧ y = .int j ∧ Q (g i j) H
def rU (g : Int → V) : V → Hp → VK → Prop := fun x H Q => ∃ i, x = .int i ∧ Q (g i) H
section
variable {X : Cx} {a b c : Expr} {ta tb tc : TE} {pos : Pos}
theorem binT (ha : PE X a ta) (hb : PE X b tb) {pins : List (Addr × Obj)} {s : Shared} {σ : St} {H : Hp} {R : V → V → Hp → Prop} (I : Inv X pins σ H s)
    (h : ta σ H fun x H1 => tb σ H1 fun y H2 => R x y H2) {Q : Value → Shared → Prop} {f : Value → Value → Sem Value}
    (hf : ∀ v u s2 x y H2, Inv X pins σ H2 s2 → RelV x v → RelV y u → R x y H2 → wpAny (model X.prog X.w) X.A (f v u) Q X.xe s2) :
    wpAny (model X.prog X.w) X.A (eval a X.env) (fun v s₁ => wpAny (model X.prog X.w) X.A (eval b X.env) (fun u s₂ => wpAny (model X.prog X.w) X.A (f v u) Q X.xe s₂) X.xe s₁) X.xe s := by
  refine thn (ha pins s σ H _ I h) fun v s1 ⟨x, H1, I1, r1, q1⟩ => ?_
  refine thn (hb pins s1 σ H1 _ I1 q1) fun u s2 ⟨y, H2, I2, r2, q2⟩ => ?_
  exact hf v u s2 x y H2 I2 r1 r2 q2
theorem pe_op {op : Operator} {r : R2} (ho : OpR X (binaryOp op) r) (ha : PE X a ta) (hb : PE X b tb) : PE X (.BinOp a op b pos) (tOp r ta tb) := by
  intro pins s σ H Q I h
  exact wpAny_BinOp (binT ha hb I h fun v u s2 x y H2 I2 rx ry q => ho pins s2 σ H2 x y v u Q I2 rx ry q)
theorem pe_un {op : UnaryOp} {r : V → Hp → VK → Prop} (ho : UnR X (unaryOp op) r) (ha : PE X a ta) : PE X (.UnaryOp op a pos) (tUn r ta) := by
  intro pins s σ H Q I h
  exact UnaryOp_ (thn (ha pins s σ H _ I h) fun v s1 ⟨x, H1, I1, r1, q1⟩ => ho pins s1 σ H1 x v Q I1 r1 q1)
theorem opI {f : Value → Value → Sem Value} {C : Int → Int → Prop} {g : Int → Int → Int}
    (rule : ∀ (i j : Int) (t u : Tok) (s : Shared) (Q : Value → Shared → Prop) (E : Value → Shared → Prop), C i j → Q (.int (g i j) s.toks) { s with toks := s.toks + 1 } → wpAny (model X.prog X.w) X.A (f (.int i t) (.int j u)) Q E s) :
    OpR X f (rI C fun i j => .int (g i j)) := by
  intro pins s σ H x y v u Q I rx ry h
  obtain ⟨i, j, rfl, rfl, hc, q⟩ := h
  obtain ⟨t, rfl⟩ := rx
  obtain ⟨t', rfl⟩ := ry
  exact rule i j t t' s _ _ hc ⟨.int (g i j), H, I.tok _, ⟨_, rfl⟩, q⟩
theorem opI0 {f : Value → Value → Sem Value} {g : Int → Int → Int}
    (rule : ∀ (i j : Int) (t u : Tok) (s : Shared) (Q : Value → Shared → Prop) (E : Value → Shared → Prop), Q (.int (g i j) s.toks) { s with toks := s.toks + 1 } → wpAny (model X.prog X.w) X.A (f (.int i t) (.int j u)) Q E s) :
    OpR X f (rI0 fun i j => .int (g i j)) := by
  intro pins s σ H x y v u Q I rx ry h
  obtain ⟨i, j, rfl, rfl, q⟩ := h
  obtain ⟨t, rfl⟩ := rx
  obtain ⟨t', rfl⟩ := ry
  exact rule i j t t' s _ _ ⟨.int (g i j), H, I.tok _, ⟨_, rfl⟩, q⟩
theorem opB0 {f : Value → Value → Sem Value} {g : Int → Int → Bool}
    (rule : ∀ (i j : Int) (t u : Tok) (s : Shared) (Q : Value → Shared → Prop) (E : Value → Shared → Prop), Q (.bool (g i j)) s → wpAny (model X.prog X.w) X.A (f (.int i t) (.int j u)) Q E s) :
    OpR X f (rI0 fun i j => .bl (g i j)) := by
  intro pins s σ H x y v u Q I rx ry h
  obtain ⟨i, j, rfl, rfl, q⟩ := h
  obtain ⟨t, rfl⟩ := rx
  obtain ⟨t', rfl⟩ := ry
  exact rule i j t t' s _ _ ⟨.bl (g i j), H, I, rfl, q⟩
def CDiv (i j : Int) : Prop := 0 < j ∧ j < 1073741824
def CPow (i j : Int) : Prop := 0 ≤ j ∧ j ≤ 1000000 ∧ i.natAbs < 2 ^ 64
def CMul (i j : Int) : Prop := (-(2 ^ 64) < i ∧ i < 2 ^ 64) ∨ (-(2 ^ 64) < j ∧ j < 2 ^ 64)
theorem CMul.ok {i j : Int} (h : CMul i j) : IntMulOk i j := by
  rcases h with ⟨h1, h2⟩ | ⟨h1, h2⟩
  · exact .of_left (intBits_le_64 h1 h2)
  · exact .of_right (intBits_le_64 h1 h2)
theorem op_add : OpR X (binaryOp .Add) (rI0 fun i j => .int (i + j)) := opI0 fun _ _ _ _ _ _ _ q => add_int q
theorem op_sub : OpR X (binaryOp .Sub) (rI0 fun i j => .int (i - j)) := opI0 fun _ _ _ _ _ _ _ q => sub_int q
theorem op_mul : OpR X (binaryOp .Mult) (rI CMul fun i j => .int (i * j)) := opI fun _ _ _ _ _ _ _ hc q => mul_int q hc.ok
theorem op_fdiv : OpR X (binaryOp .FloorDiv) (rI CDiv fun i j => .int (i / j)) := opI fun i j _ _ _ _ _ hc q => by
  have h1 : (0 : Int) < j := hc.1
  have h2 : j < 1073741824 := hc.2
  exact floordiv_int (by omega) (by rw [Int.fdiv_eq_ediv_of_nonneg i (by omega)]; exact q) (.inl (PyProof.noPylong_small (by omega)))
theorem op_mod : OpR X (binaryOp .Mod) (rI (fun _ j => 0 < j) fun i j => .int (i % j)) := opI fun i j _ _ _ _ _ hc q => by
  have h1 : (0 : Int) < j := hc
  exact mod_int' (by omega) (by rw [Int.fmod_eq_emod_of_nonneg i (by omega)]; exact q)
theorem op_modN : OpR X (binaryOp .Mod) (rI (fun _ j => j ≠ 0) fun i j => .int (i.fmod j)) := opI fun _ _ _ _ _ _ _ hc q => mod_int' hc q
theorem op_pow : OpR X (binaryOp .Pow) (rI CPow fun i j => .int (i ^ j.toNat)) := opI fun _ _ _ _ _ _ _ hc q => pow_int_small hc.1 hc.2.1 hc.2.2 q
theorem unI {f : Value → Sem Value} {g : Int → Int}
    (rule : ∀ (i : Int) (t : Tok) (s : Shared) (Q : Value → Shared → Prop) (E : Value → Shared → Prop), Q (.int (g i) s.toks) { s with toks := s.toks + 1 } → wpAny (model X.prog X.w) X.A (f (.int i t)) Q E s) :
    UnR X f (rU fun i => .int (g i)) := by
  intro pins s σ H x v Q I rx h
  obtain ⟨i, rfl, q⟩ := h
  obtain ⟨t, rfl⟩ := rx
  exact rule i t s _ _ ⟨.int (g i), H, I.tok _, ⟨_, rfl⟩, q⟩
theorem un_neg : UnR X (unaryOp .USub) (rU fun i => .int (-i)) := unI fun _ _ _ _ _ q => neg_int q
end
def scal : V → V → Bool
  | .non, .non => true | .non, .int _ => true | .int _, .non => true | .non, .bl _ => true | .bl _, .non => true | .non, .str _ => true | .str _, .non => true
  | .int _, .int _ => true | .bl _, .bl _ => true | .str _, .str _ => true | .byt _, .byt _ => true
  | .int _, .str _ => true | .str _, .int _ => true | .bl _, .str _ => true | .str _, .bl _ => true
  | _, _ => false
def rEq : R2 := fun x y H Q => scal x y = true ∧ Q (.bl (decide (x = y))) H
def rNe : R2 := fun x y H Q => scal x y = true ∧ Q (.bl (!decide (x = y))) H
theorem dec_int {i j : Int} : decide (V.int i = V.int j) = (i == j) := by
  rw [Bool.eq_iff_iff]
  simp
theorem dec_bl {i j : Bool} : decide (V.bl i = V.bl j) = (i == j) := by
  rw [Bool.eq_iff_iff]
  simp
theorem dec_str {i j : Str} : decide (V.str i = V.str j) = (i == j) := by
  rw [Bool.eq_iff_iff]
  simp
theorem dec_byt {i j : Array UInt8} : decide (V.byt i = V.byt j) = (i.toList == j.toList) := by
  rw [Bool.eq_iff_iff]
  cases i
  cases j
  simp
section
variable {X : Cx} {a b c : Expr} {ta tb tc : TE} {pos : Pos}
theorem fin_bl {pins : List (Addr × Obj)} {σ : St} {H : Hp} {s : Shared} {Q : VK} {k k' : Bool} (I : Inv X pins σ H s) (q : Q (.bl k) H) (e : k = k') : EP X pins σ Q (.bool k') s := by
  subst e
  exact ⟨.bl k, H, I, rfl, q⟩
theorem op_eq : OpR X (compareOp .Eq) rEq := by
  intro pins s σ H x y v u Q I rx ry h
  obtain ⟨hs, q⟩ := h
  cases x with
  | non =>
    cases rx
    cases y with
    | non => cases ry; exact PySem.EqNone.eq_none_none (fin_bl I q (by simp))
    | bl j => cases ry; exact PySem.EqNone.eq_none_bool (fin_bl I q (by simp))
    | int j => obtain ⟨t', rfl⟩ := ry; exact PySem.EqNone.eq_none_int (fin_bl I q (by simp))
    | str j => obtain ⟨t', rfl⟩ := ry; exact PySem.EqNone.eq_none_str (fin_bl I q (by simp))
    | _ => exact absurd (show false = true from hs) Bool.false_ne_true
  | bl i =>
    cases rx
    cases y with
    | non => cases ry; exact PySem.EqNone.eq_bool_none (fin_bl I q (by simp))
    | bl j => cases ry; exact eq_bool (fin_bl I q dec_bl)
    | str j => obtain ⟨t', rfl⟩ := ry; exact PySem.EqMixed.eq_bool_str (fin_bl I q (by simp))
    | _ => exact absurd (show false = true from hs) Bool.false_ne_true
  | int i =>
    obtain ⟨t, rfl⟩ := rx
    cases y with
    | non => cases ry; exact PySem.EqNone.eq_int_none (fin_bl I q (by simp))
    | int j => obtain ⟨t', rfl⟩ := ry; exact eq_int (fin_bl I q dec_int)
    | str j => obtain ⟨t', rfl⟩ := ry; exact PySem.EqMixed.eq_int_str (fin_bl I q (by simp))
    | _ => exact absurd (show false = true from hs) Bool.false_ne_true
  | str i =>
    obtain ⟨t, rfl⟩ := rx
    cases y with
    | non => cases ry; exact PySem.EqNone.eq_str_none (fin_bl I q (by simp))
    | bl j => cases ry; exact PySem.EqMixed.eq_str_bool (fin_bl I q (by simp))
    | int j => obtain ⟨t', rfl⟩ := ry; exact PySem.EqMixed.eq_str_int (fin_bl I q (by simp))
    | str j => obtain ⟨t', rfl⟩ := ry; exact eq_str (fin_bl I q dec_str)
    | _ => exact absurd (show false = true from hs) Bool.false_ne_true
  | byt i =>
    obtain ⟨t, rfl⟩ := rx
    cases y with
    | byt j => obtain ⟨t', rfl⟩ := ry; exact PySem.W.eq_bytes (fin_bl I q dec_byt)
    | _ => exact absurd (show false = true from hs) Bool.false_ne_true
  | _ => cases y <;> exact absurd (show false = true from hs) Bool.false_ne_true
theorem op_ne : OpR X (compareOp .NotEq) rNe := by
  intro pins s σ H x y v u Q I rx ry h
  obtain ⟨hs, q⟩ := h
  cases x with
  | non =>
    cases rx
    cases y with
    | non => cases ry; exact PySem.EqNone.ne_none_none (fin_bl I q (by simp))
    | bl j => cases ry; exact PySem.EqNone.ne_none_bool (fin_bl I q (by simp))
    | int j => obtain ⟨t', rfl⟩ := ry; exact PySem.EqNone.ne_none_int (fin_bl I q (by simp))
    | str j => obtain ⟨t', rfl⟩ := ry; exact PySem.EqNone.ne_none_str (fin_bl I q (by simp))
    | _ => exact absurd (show false = true from hs) Bool.false_ne_true
  | bl i =>
    cases rx
    cases y with
    | non => cases ry; exact PySem.EqNone.ne_bool_none (fin_bl I q (by simp))
    | bl j => cases ry; exact ne_bool (fin_bl I q (congrArg not dec_bl))
    | str j => obtain ⟨t', rfl⟩ := ry; exact PySem.EqMixed.ne_bool_str (fin_bl I q (by simp))
    | _ => exact absurd (show false = true from hs) Bool.false_ne_true
  | int i =>
    obtain ⟨t, rfl⟩ := rx
    cases y with
    | non => cases ry; exact PySem.EqNone.ne_int_none (fin_bl I q (by simp))
    | int j => obtain ⟨t', rfl⟩ := ry; exact ne_int (fin_bl I q (congrArg not dec_int))
    | str j => obtain ⟨t', rfl⟩ := ry; exact PySem.EqMixed.ne_int_str (fin_bl I q (by simp))
    | _ => exact absurd (show false = true from hs) Bool.false_ne_true
  | str i =>
    obtain ⟨t, rfl⟩ := rx
    cases y with
    | non => cases ry; exact PySem.EqNone.ne_str_none (fin_bl I q (by simp))
    | bl j => cases ry; exact PySem.EqMixed.ne_str_bool (fin_bl I q (by simp))
    | int j => obtain ⟨t', rfl⟩ := ry; exact PySem.EqMixed.ne_str_int (fin_bl I q (by simp))
    | str j => obtain ⟨t', rfl⟩ := ry; exact ne_str (fin_bl I q (congrArg not dec_str))
    | _ => exact absurd (show false = true from hs) Bool.false_ne_true
  | byt i =>
    obtain ⟨t, rfl⟩ := rx
    cases y with
    | byt j => obtain ⟨t', rfl⟩ := ry; exact PySem.W.ne_bytes (fin_bl I q (congrArg not dec_byt))
    | _ => exact absurd (show false = true from hs) Bool.false_ne_true
  | _ => cases y <;> exact absurd (show false = true from hs) Bool.false_ne_true
theorem op_lt : OpR X (compareOp .Lt) (rI0 fun i j => .bl (decide (i < j))) := opB0 fun _ _ _ _ _ _ _ q => lt_int q
theorem op_le : OpR X (compareOp .LtE) (rI0 fun i j => .bl (decide (i ≤ j))) := opB0 fun _ _ _ _ _ _ _ q => le_int q
theorem op_gt : OpR X (compareOp .Gt) (rI0 fun i j => .bl (decide (j < i))) := opB0 fun _ _ _ _ _ _ _ q => gt_int q
theorem op_ge : OpR X (compareOp .GtE) (rI0 fun i j => .bl (decide (j ≤ i))) := opB0 fun _ _ _ _ _ _ _ q => ge_int q
theorem op_isN : OpR X (compareOp .Is) (fun x y H Q => y = .non ∧ Q (.bl (decide (x = .non))) H) := by
  intro pins s σ H x y v u Q I rx ry h
  obtain ⟨rfl, q⟩ := h
  cases ry
  refine is_none_gen (fin_bl I q ?_)
  cases x <;> first
    | (cases rx; rfl)
    | (obtain ⟨t, rfl⟩ := rx; rfl)
theorem nomark (b : Expr) {op : CmpOp} (h : op ≠ .In := by decide) (h2 : op ≠ .NotIn := by decide) : behindInMarks op b = false := by
  have e1 : (op == CmpOp.In) = false := by cases op <;> first | rfl | exact absurd rfl h
  have e2 : (op == CmpOp.NotIn) = false := by cases op <;> first | rfl | exact absurd rfl h2
  cases b <;> simp [behindInMarks, e1, e2]
theorem pe_cmpR {op : CmpOp} {r : R2} (ho : OpR X (compareOp op) r) (ha : PE X a ta) (hb : PE X b tb) (hm : behindInMarks op b = false) : PE X (.Compare a [op] [b] pos) (tOp r ta tb) := by
  intro pins s σ H Q I h
  exact wpAny_Compare1 (binT ha hb I h fun v u s2 x y H2 I2 rx ry q => ho pins s2 σ H2 x y v u Q I2 rx ry q) hm
def tTest (t : TE) : TT := fun σ H Q => t σ H fun x H' => ∃ k, x = .bl k ∧ Q k H'
theorem pt_cmpR {op : CmpOp} {r : R2} (ho : OpR X (compareOp op) r) (ha : PE X a ta) (hb : PE X b tb) (hm : behindInMarks op b = false) : PT X (.Compare a [op] [b] pos) (tTest (tOp r ta tb)) := by
  intro pins s σ H Q I h
  refine wpAny_isTrue_Compare1 (thn (ha pins s σ H _ I h) fun v s1 ⟨x, H1, I1, r1, q1⟩ => thn (hb pins s1 σ H1 _ I1 q1) fun u s2 ⟨y, H2, I2, r2, q2⟩ =>
    thn (ho pins s2 σ H2 x y v u _ I2 r1 r2 q2) fun c s3 ⟨z, H3, I3, r3, k, e, q3⟩ => ?_) hm
  subst e
  cases r3
  exact wpAny_truthy_bool ⟨H3, I3, q3⟩
theorem line63 : (sizeLine : Nat) < 2 ^ 63 := by rw [sizeLine_eq]; decide
theorem vals1 {x : V} {us : List Value} (r : Vals [x] us) : ∃ u, us = [u] ∧ RelV x u := by
  cases r with
  | cons r1 r2 => cases r2; exact ⟨_, rfl, r1⟩
theorem vals2 {x y : V} {us : List Value} (r : Vals [x, y] us) : ∃ u w', us = [u, w'] ∧ RelV x u ∧ RelV y w' := by
  cases r with
  | cons r1 r2 =>
    cases r2 with
    | cons r3 r4 => cases r4; exact ⟨_, _, rfl, r1, r3⟩
theorem call_abs : CallR X (.builtin "abs") (fun xs H Q => ∃ i, xs = [.int i] ∧ Q (.int (if i < 0 then -i else i)) H) := by
  intro pins s σ H xs us Q I r h
  obtain ⟨i, rfl, q⟩ := h
  obtain ⟨u, rfl, t, rfl⟩ := vals1 r
  exact call_abs_int fun u tk => ⟨.int (if i < 0 then -i else i), H, I.tok _, ⟨_, rfl⟩, q⟩
theorem call_max2 (hc : X.calm = true) : CallR X (.builtin "max") (fun xs H Q => ∃ i j, xs = [.int i, .int j] ∧ Q (.int (if j > i then j else i)) H) := by
  intro pins s σ H xs us Q I r h
  obtain ⟨i, j, rfl, q⟩ := h
  obtain ⟨u, w', rfl, ⟨t, rfl⟩, ⟨t', rfl⟩⟩ := vals2 r
  refine max_two_ints (I.ok.hd hc) fun h' tk k => ⟨_, H, I.kept k, ?_, q⟩
  by_cases hj : j > i
  · rw [if_pos hj, if_pos hj]; exact ⟨_, rfl⟩
  · rw [if_neg hj, if_neg hj]; exact ⟨_, rfl⟩
theorem call_min2 (hc : X.calm = true) : CallR X (.builtin "min") (fun xs H Q => ∃ i j, xs = [.int i, .int j] ∧ Q (.int (if j < i then j else i)) H) := by
  intro pins s σ H xs us Q I r h
  obtain ⟨i, j, rfl, q⟩ := h
  obtain ⟨u, w', rfl, ⟨t, rfl⟩, ⟨t', rfl⟩⟩ := vals2 r
  refine min_two_ints (I.ok.hd hc) fun h' tk k => ⟨_, H, I.kept k, ?_, q⟩
  by_cases hj : j < i
  · rw [if_pos hj, if_pos hj]; exact ⟨_, rfl⟩
  · rw [if_neg hj, if_neg hj]; exact ⟨_, rfl⟩
theorem call_int1 : CallR X (.type "int") (fun xs H Q => (∃ i, xs = [.int i] ∧ Q (.int i) H) ∨ ∃ k, xs = [.bl k] ∧ Q (.int (if k then 1 else 0)) H) := by
  intro pins s σ H xs us Q I r h
  rcases h with ⟨i, rfl, q⟩ | ⟨k, rfl, q⟩
  · obtain ⟨u, rfl, t, rfl⟩ := vals1 r
    exact call_int_int ⟨.int i, H, I, ⟨_, rfl⟩, q⟩
  · obtain ⟨u, rfl, r1⟩ := vals1 r
    cases r1
    exact call_int_bool ⟨.int (if k then 1 else 0), H, I.tok _, ⟨_, rfl⟩, q⟩
end
end L2
namespace L2
open PySem PySem.Spec PyProof.Rows
structure ObjM (h : Heap) (x dx C : Addr) (mA : Str → Option Value) : Prop where
  obj : h.get? x = some (PySem.W.instObj C dx)
  ns : h.Ns1 dx mA
  ne : dx ≠ x
theorem lookIn_ns {h : Heap} {dx : Addr} {mA : Str → Option Value} (n : h.Ns1 dx mA) : ∃ od, h.get? dx = some od ∧ ∀ name, PySem.W.lookIn name od = some (mA name) := by
  obtain ⟨o, es, ep, ho, hd, hk, _, hm⟩ := n
  refine ⟨o, ho, fun name => ?_⟩
  have e := hm name
  unfold nsFind findBy at e
  rw [← Array.find?_toList] at e
  unfold PySem.W.lookIn
  rw [hd]
  dsimp only
  split
  · rename_i y q
    rw [q] at e
    exact congrArg some e
  · rename_i q
    rw [q] at e
    have a : es.toList.any (·.refKey) = false := by
      rw [List.any_eq_false]
      intro y hy
      obtain ⟨z, t, hkey⟩ := hk y (Array.mem_toList_iff.mp hy)
      simp [DictEntry.refKey, hkey]
    have a' : ¬ es.toList.any (·.refKey) = true := by rw [a]; exact Bool.false_ne_true
    rw [if_neg a']
    exact congrArg some e
theorem ObjM.look {h : Heap} {x dx C : Addr} {mA : Str → Option Value} (I : ObjM h x dx C mA) : ∃ od, PySem.W.InstAt h x (PySem.W.instObj C dx) C (some od) ∧ ∀ name, PySem.W.lookIn name od = some (mA name) :=
  let ⟨od, ho, hl⟩ := lookIn_ns I.ns
  ⟨od, ⟨I.obj, rfl, rfl, ho⟩, hl⟩
section
variable {prog : Program} {w : World} {A : Around} {E : Value → Shared → Prop} {s : Shared} {K : PySem.W.Frag} {x dx C f : Addr} {mA : Str → Option Value} {name : Str} {v : Value}
theorem get_map {expr : Bool} {Q : Value → Shared → Prop} (X : K.In s.heap) (I : ObjM s.heap x dx C mA) (hg : PySem.W.plainGet K C name = true) (hh : PySem.W.hasDictIn K C = true)
    (ha : PySem.W.findIn K (.ref C) name = some none) (hv : mA name = some v) (hv' : PySem.W.handedIn v = true) (h : Q v { s with toks := s.toks + 1 }) :
    wpAny (model prog w) A (getAttr (.ref x) name expr) Q E s := by
  obtain ⟨od, J, hl⟩ := I.look
  exact PySem.W.get_value X J (PySem.W.plainGet_of hg).1 (PySem.W.findObj_own hh ha rfl (by rw [hl, hv])) hv' h
theorem get_meth {pl : Sem Bool} {Q : Value × List Value → Shared → Prop} (X : K.In s.heap) (I : ObjM s.heap x dx C mA) (hg : PySem.W.plainGet K C name = true)
    (hf : PySem.W.findIn K (.ref C) name = some (some (.ref f))) (ht : PySem.W.isFn K (.ref f) = true) (hv : mA name = none) (h : Q (.ref f, [.ref x]) s) :
    wpAny (model prog w) A (getMethod (.ref x) name pl) Q E s := by
  obtain ⟨od, J, hl⟩ := I.look
  exact PySem.W.method_fn X J (PySem.W.plainGet_of hg).1 (PySem.W.plainGet_of hg).2 hf (beq_iff_eq.mp ht) (by show (PySem.W.lookIn name od).map (·.isSome) = some false; rw [hl, hv]; rfl) h
theorem set_map {ns : List Str} {Q : Unit → Shared → Prop} (X : K.In s.heap) (I : ObjM s.heap x dx C mA)
    (hs : PySem.W.findIn K (.ref C) "__setattr__" = some (some (.builtin "object.__setattr__"))) (hp : PySem.W.plainOver K C = true) (ht : PySem.W.takerIn K C name = some none) (hh : PySem.W.hasDictIn K C = true)
    (hw : PySem.Within mA ns) (hsz : ns.length ≤ sizeLine)
    (h : ∀ h', ObjM h' x dx C (fun y => if y = name then some v else mA y) → Heap.SameBut dx s.heap h' → Q () { s with heap := h', toks := s.toks + 2 }) :
    wpAny (model prog w) A (setAttr (.ref x) name v) Q E s := by
  obtain ⟨od, J, hl⟩ := I.look
  refine PySem.W.set_plain X J hs (PySem.W.osa_open (s := { s with toks := s.toks + 1 }) (r := none) X J hp ht fun b => ?_)
  obtain ⟨cd, hc, hd'⟩ := PySem.W.any_some hh
  have hx : s.heap.get? x = some ⟨.ref C, some dx, .plain, #[]⟩ := I.obj
  refine wpAny_bind (wpAny_pure (wpAny_bind (wpAny_bind (wpAny_loadPart hx (wpAny_bind (PySem.W.Looks.here (s := { s with toks := s.toks + 1 }) (PySem.W.looks_clsIn X hc) ?_))))))
  rw [hd']
  refine wpAny_pure (a := some dx) (wpAny_bind (wpAny_pure (wpAny_bind ?_)))
  refine wpAny_nsSet1 (s := { s with toks := s.toks + 1 }) I.ns fun h' hn2 hs2 => ?_
  obtain ⟨oD, esD, epD, hoD, hdD, hcD⟩ := hn2.count (PySem.Within.cons name v hw)
  refine wpAny_bind (wpAny_lookBehind hoD (by rw [hdD]; exact pastItsLine_dict (Nat.le_trans hcD (by rw [List.length_cons]; omega))) ?_)
  exact wpAny_pure (h _ ⟨(hs2.2 _ (Ne.symm I.ne)).trans I.obj, hn2, I.ne⟩ hs2)
theorem make_map {R : Result → Shared → Prop} {vs : List Value} {kw : List (Str × Value)} (X : K.In s.heap) (hm : PySem.W.makesIn K C = true)
    (hi : PySem.W.findIn K (.ref C) "__init__" = some (some (.ref f))) (hf : PySem.W.typeIn K (.ref f) = some (.type "function"))
    (h : codeAny (model prog w) (A.under (.builtin "type.__call__" ⟨.ref C :: vs, kw⟩)) (.call (.ref f) ⟨.ref (s.heap.objs.size + 1) :: vs, kw⟩) (PySem.W.InitBack (s.heap.objs.size + 1) R)
      { s with heap := (s.heap.push PySem.W.emptyDict).push (PySem.W.instObj C s.heap.objs.size) }) :
    codeAny (model prog w) A (.call (.ref C) ⟨vs, kw⟩) R s := by
  obtain ⟨hh, g, d, t, os⟩ := s
  exact PySem.W.make_core (PySem.W.makes_of X hm) (PySem.W.looks_findIn X hi) (fun self => PySem.W.bind_fn X self hf) (.inl rfl) h
end
def putF (f : Str) (v : V) : List (Str × V) → List (Str × V)
  | [] => [(f, v)]
  | (g, x) :: r => if g = f then (g, v) :: r else (g, x) :: putF f v r
theorem lookup_putF (f g : Str) (v : V) : ∀ fs : List (Str × V), (putF f v fs).lookup g = if g = f then some v else fs.lookup g
  | [] => by
    show List.lookup g [(f, v)] = _
    by_cases h : g = f
    · have hb : (g == f) = true := beq_iff_eq.mpr h
      simp only [List.lookup, hb, if_pos h]
    · have hb : (g == f) = false := beq_eq_false_iff_ne.mpr h
      simp only [List.lookup, hb, if_neg h]
  | (k, x) :: r => by
    have ih := lookup_putF f g v r
    rw [show putF f v ((k, x) :: r) = (if k = f then (k, v) :: r else (k, x) :: putF f v r) from rfl]
    by_cases hk : k = f
    · rw [if_pos hk]
      by_cases h : g = k
      · have hb : (g == k) = true := beq_iff_eq.mpr h
        simp only [List.lookup, hb, if_pos (h.trans hk)]
      · have hb : (g == k) = false := beq_eq_false_iff_ne.mpr h
        simp only [List.lookup, hb, if_neg (fun e : g = f => h (e.trans hk.symm))]
    · rw [if_neg hk]
      by_cases h : g = k
      · have hb : (g == k) = true := beq_iff_eq.mpr h
        simp only [List.lookup, hb, if_neg (fun e : g = f => hk (h.symm.trans e))]
      · have hb : (g == k) = false := beq_eq_false_iff_ne.mpr h
        simp only [List.lookup, hb]
        exact ih
theorem keys_putF (f : Str) (v : V) : ∀ fs : List (Str × V), f ∈ (putF f v fs).map (·.1) ∧ ∀ g, g ∈ fs.map (·.1) → g ∈ (putF f v fs).map (·.1)
  | [] => ⟨by simp [putF], fun g h => by simp at h⟩
  | (k, x) :: r => by
    obtain ⟨i1, i2⟩ := keys_putF f v r
    rw [show putF f v ((k, x) :: r) = (if k = f then (k, v) :: r else (k, x) :: putF f v r) from rfl]
    by_cases hk : k = f
    · rw [if_pos hk]
      subst hk
      exact ⟨by simp, fun g h => by simpa using h⟩
    · rw [if_neg hk]
      refine ⟨?_, fun g h => ?_⟩
      · rw [List.map_cons]
        exact List.mem_cons_of_mem _ i1
      · rw [List.map_cons] at h ⊢
        rcases List.mem_cons.mp h with e | e
        · exact List.mem_cons.mpr (.inl e)
        · exact List.mem_cons_of_mem _ (i2 g e)
theorem length_putF (f : Str) (v : V) : ∀ fs : List (Str × V), (putF f v fs).length ≤ fs.length + 1
  | [] => by simp [putF]
  | (k, x) :: r => by
    have ih := length_putF f v r
    rw [show putF f v ((k, x) :: r) = (if k = f then (k, v) :: r else (k, x) :: putF f v r) from rfl]
    by_cases hk : k = f
    · rw [if_pos hk, List.length_cons, List.length_cons]; omega
    · rw [if_neg hk, List.length_cons, List.length_cons]; omega
theorem RelO.some_of {v : V} {o : Option Value} (r : RelO (some v) o) : ∃ u, o = some u ∧ RelV v u := by
  cases o with
  | none => exact (show False from r).elim
  | some u => exact ⟨u, rfl, r⟩
theorem RelO.none_of {o : Option Value} (r : RelO none o) : o = none := by
  cases o with
  | none => rfl
  | some u => exact (show False from r).elim
theorem handed_of {v : V} {u : Value} (r : RelV v u) : PySem.W.handedIn u = true := by
  cases v with
  | non => cases (show u = Value.none from r); rfl
  | bl b => cases (show u = Value.bool b from r); rfl
  | int i => obtain ⟨t, e⟩ := (show ∃ t, u = Value.int i t from r); cases e; rfl
  | str x => obtain ⟨t, e⟩ := (show ∃ t, u = Value.str x t from r); cases e; rfl
  | byt b => obtain ⟨t, e⟩ := (show ∃ t, u = Value.bytes b t from r); cases e; rfl
  | flt b => obtain ⟨t, e⟩ := (show ∃ t, u = Value.float b t from r); cases e; rfl
  | ref a => cases (show u = Value.ref a from r); rfl
  | ty n => cases (show u = Value.type n from r); rfl
section
variable {P : Program} {w : World} {H H' : Hp} {h h' : Heap} {a C dx : Addr} {fs fs' : List (Str × V)}
theorem ins_get (hok : HOk P w H h) (e : H a = some (.ins C dx fs)) : ∃ mA, ObjM h a dx C mA ∧ (∀ f, RelO (fs.lookup f) (mA f)) ∧ PySem.Within mA (fs.map (·.1)) ∧ fs.length ≤ 1000 ∧ H dx = some (.own a) := by
  obtain ⟨d, z, ne, ob, mA, n, r, q⟩ := (show ObjOk P w H h a (.ins C dx fs) from hok a _ e)
  exact ⟨mA, ⟨ob, n, ne⟩, r, q, z, d⟩
end
structure Cls (K : PySem.W.Frag) (C : Addr) : Prop where
  pg : PySem.W.plainGet K C Str.empty = true
  hd : PySem.W.hasDictIn K C = true
  po : PySem.W.plainOver K C = true
  sa : PySem.W.findIn K (.ref C) "__setattr__" = some (some (.builtin "object.__setattr__"))
theorem Cls.get {K : PySem.W.Frag} {C : Addr} (c : Cls K C) (f : Str) : PySem.W.plainGet K C f = true := c.pg
def NoAttr (K : PySem.W.Frag) (C : Addr) (f : Str) : Prop := PySem.W.findIn K (.ref C) f = some none
theorem NoAttr.taker {K : PySem.W.Frag} {C : Addr} {f : Str} (n : NoAttr K C f) : PySem.W.takerIn K C f = some none := by
  unfold PySem.W.takerIn
  rw [show PySem.W.findIn K (.ref C) f = some none from n]
  rfl
structure Meth (K : PySem.W.Frag) (C : Addr) (m : Str) (f : Addr) : Prop where
  at_ : PySem.W.findIn K (.ref C) m = some (some (.ref f))
  fn : PySem.W.isFn K (.ref f) = true
  kp : PySem.W.keepIn K (.ref f) = true
section
variable {X : Cx} {pins : List (Addr × Obj)} {σ : St} {H : Hp} {s : Shared} {a C dx : Addr} {fs : List (Str × V)} {f : Str} {v : V} {A : Around} {E : Value → Shared → Prop}
theorem getattr_ok {b : Bool} {Q : Value → Shared → Prop} (I : Inv X pins σ H s) (e : H a = some (.ins C dx fs)) (c : Cls X.K C) (n : NoAttr X.K C f) (l : fs.lookup f = some v)
    (h : ∀ u s', Inv X pins σ H s' → RelV v u → Q u s') : wpAny (model X.prog X.w) A (getAttr (.ref a) f b) Q E s := by
  obtain ⟨mA, O, r, _, _, _⟩ := ins_get I.hok e
  obtain ⟨u, hu, ru⟩ := RelO.some_of (v := v) (o := mA f) (by rw [← l]; exact r f)
  exact get_map I.kIn O (c.get f) c.hd n hu (handed_of ru) (h u _ (I.tok _) ru)
theorem getmeth_ok {m : Str} {g : Addr} {pl : Sem Bool} {Q : Value × List Value → Shared → Prop} (I : Inv X pins σ H s) (e : H a = some (.ins C dx fs)) (c : Cls X.K C) (k : Meth X.K C m g) (l : fs.lookup m = none)
    (h : Q (.ref g, [.ref a]) s) : wpAny (model X.prog X.w) A (getMethod (.ref a) m pl) Q E s := by
  obtain ⟨mA, O, r, _, _, _⟩ := ins_get I.hok e
  have hn : mA m = none := RelO.none_of (by rw [← l]; exact r m)
  exact get_meth I.kIn O (c.get m) k.at_ k.fn hn h
theorem setattr_ok {y : V} {u : Value} {Q : Unit → Shared → Prop} (I : Inv X pins σ H s) (e : H a = some (.ins C dx fs)) (c : Cls X.K C) (n : NoAttr X.K C f) (hl : fs.length < 1000) (ry : RelV y u)
    (h : ∀ s', Inv X pins σ (upd H a (.ins C dx (putF f y fs))) s' → Q () s') : wpAny (model X.prog X.w) A (setAttr (.ref a) f u) Q E s := by
  obtain ⟨mA, O, r, wi, _, ho⟩ := ins_get I.hok e
  have hz : (fs.map (·.1)).length ≤ sizeLine := by rw [List.length_map, sizeLine_eq]; omega
  refine set_map I.kIn O c.sa c.po n.taker c.hd wi hz fun h' O' sb => h _ ?_
  have hd : ∃ o, h'.get? dx = some o := let ⟨o, _, _, e', _⟩ := O'.ns; ⟨o, e'⟩
  refine I.write (x := a) (e := dx) (by rw [e]; exact True.intro) (.inr ho) (fun b q hb z => (sb.2 b hb).trans z) hd ?_
  refine ⟨by rw [upd_ne O.ne]; exact ho, ?_, O.ne, O'.obj, _, O'.ns, fun g => ?_, fun g hg => ?_⟩
  · have := length_putF f y fs; omega
  · show RelO ((putF f y fs).lookup g) (if g = f then some u else mA g)
    rw [lookup_putF]
    by_cases q : g = f
    · rw [if_pos q, if_pos q]; exact ry
    · rw [if_neg q, if_neg q]; exact r g
  · by_cases q : g = f
    · rw [q]; exact (keys_putF f y fs).1
    · refine (keys_putF f y fs).2 g (wi g fun z => hg ?_)
      show (if g = f then some u else mA g) = none
      rw [if_neg q]; exact z
theorem Inv.made (I : Inv X pins σ H s) : Inv X pins σ (upd (upd H s.heap.objs.size (.own (s.heap.objs.size + 1))) (s.heap.objs.size + 1) (.ins C s.heap.objs.size []))
    { s with heap := (s.heap.push PySem.W.emptyDict).push (PySem.W.instObj C s.heap.objs.size) } := by
  have e1 : (s.heap.push PySem.W.emptyDict).get? s.heap.objs.size = some PySem.W.emptyDict := Heap.get?_push_size s.heap rfl
  have e2 : ((s.heap.push PySem.W.emptyDict).push (PySem.W.instObj C s.heap.objs.size)).get? (s.heap.objs.size + 1) = some (PySem.W.instObj C s.heap.objs.size) := by
    have := Heap.get?_push_size (s.heap.push PySem.W.emptyDict) (o := PySem.W.instObj C s.heap.objs.size) rfl
    rwa [Heap.size_push] at this
  have e3 : (s.heap.push PySem.W.emptyDict).Ns s.heap.objs.size (fun _ => none) := ⟨PySem.W.emptyDict, #[], _, e1, rfl, (fun e he => absurd he (by simp)), fun _ => rfl⟩
  have I1 := I.laid (a := s.heap.objs.size) (o := .own (s.heap.objs.size + 1)) (h' := s.heap.push PySem.W.emptyDict) (t' := s.toks) (fun b u q => Heap.get?_push_of_some _ q) (Nat.le_refl _) ⟨_, e1⟩
  refine I1.laid (a := s.heap.objs.size + 1) (o := .ins C s.heap.objs.size []) (t' := s.toks) (fun b u q => Heap.get?_push_of_some _ q) (Nat.le_of_eq (Heap.size_push _ _)) ?_
  have ne : s.heap.objs.size ≠ s.heap.objs.size + 1 := Nat.ne_of_lt (Nat.lt_succ_self _)
  refine ⟨by rw [upd_ne ne, upd_same], Nat.zero_le _, ne, e2, fun _ => none, (Heap.Ns1.of_empty e3).at fun o q => Heap.get?_push_of_some _ q, fun _ => True.intro, fun y hy => absurd rfl hy⟩
theorem attr_of {prog : Program} {w : World} {env : Env} {e : Expr} {f : Str} {pos : Pos} {s : Shared} {Q : Value → Shared → Prop} (hb : attributeBase e f env (eval e env) = eval e env)
    (h : wpAny (model prog w) A (eval e env) (fun o s₁ => wpAny (model prog w) A (getAttr o f true) Q E s₁) E s) : wpAny (model prog w) A (eval (.Attribute e f pos) env) Q E s :=
  Attribute_any_ h (by rw [arm_eval_Attribute, hb])
end
def tFld (K : PySem.W.Frag) (ta : TE) (f : Str) : TE := fun σ H Q => ta σ H fun x H1 => ∃ a C dx fs v, x = .ref a ∧ H1 a = some (.ins C dx fs) ∧ Cls K C ∧ NoAttr K C f ∧ fs.lookup f = some v ∧ Q v H1
def sFld (K : PySem.W.Frag) (ta tv : TE) (f : Str) : TS := fun D σ H => tv σ H fun y H1 => ta σ H1 fun x H2 => ∃ a C dx fs, x = .ref a ∧ H2 a = some (.ins C dx fs) ∧ Cls K C ∧ NoAttr K C f ∧ fs.length < 1000 ∧
  D.nx σ (upd H2 a (.ins C dx (putF f y fs)))
section
variable {X : Cx} {o e value : Expr} {f : Str} {pos pos' tpos : Pos} {ta tv : TE}
theorem pe_fld (he : PE X e ta) (hb : attributeBase e f X.env (eval e X.env) = eval e X.env) : PE X (.Attribute e f pos) (tFld X.K ta f) := by
  intro pins s σ H Q I h
  refine attr_of hb (thn (he pins s σ H _ I h) fun u s1 ⟨x, H1, I1, rx, a, C, dx, fs, v, ex, ea, c, n, l, q⟩ => ?_)
  subst ex
  obtain rfl : u = Value.ref a := rx
  exact getattr_ok I1 ea c n l fun u' s2 I2 ru => ⟨v, H1, I2, ru, q⟩
theorem ps_fld (ha : PE X o ta) (hv : PE X value tv) (hs : swapsWith value (some (.Attribute o f pos')) pos.line X.env = pure false) : PS X (.Assign [.Attribute o f pos'] value pos) (sFld X.K ta tv f) := by
  intro pins s σ H D I h
  refine plainObj_wpAny_Assign_Attribute (thn (hv pins s σ H _ I h) fun u s1 ⟨y, H1, I1, ry, q⟩ => thn (ha pins s1 σ H1 _ I1 q) fun ov s2 ⟨x, H2, I2, rx, a, C, dx, fs, ex, ea, c, n, l, q2⟩ => ?_) hs
  subst ex
  obtain rfl : ov = Value.ref a := rx
  exact setattr_ok I2 ea c n l ry fun s3 I3 => ⟨σ, _, I3, q2⟩
end
section
variable {X : Cx} {pins : List (Addr × Obj)} {σ : St} {H : Hp} {s : Shared} {A : Around} {E : Value → Shared → Prop} {Q : Value → Shared → Prop} {c : Value} {b : Bool}
inductive TyOf (K : PySem.W.Frag) (H : Hp) : V → Value → Prop where
  | non : TyOf K H .non (.type "NoneType")
  | bl (x : Bool) : TyOf K H (.bl x) (.type "bool")
  | int (i : Int) : TyOf K H (.int i) (.type "int")
  | str (x : Str) : TyOf K H (.str x) (.type "str")
  | flt (x : UInt64) : TyOf K H (.flt x) (.type "float")
  | lst {a : Addr} {xs : List V} (e : H a = some (.lst xs)) : TyOf K H (.ref a) (.type "list")
  | frz {a : Addr} {o : Obj} {xs : List V} (e : H a = some (.frz o (.lst xs))) : TyOf K H (.ref a) (.type "list")
  | tup {a : Addr} {xs : List V} (e : H a = some (.tup xs)) : TyOf K H (.ref a) (.type "tuple")
  | dK {a : Addr} {kvs : List (Key × V)} (e : H a = some (.dK kvs)) : TyOf K H (.ref a) (.type "dict")
  | dT {a : Addr} {kvs : List (List Key × V)} (e : H a = some (.dT kvs)) : TyOf K H (.ref a) (.type "dict")
  | ins {a C dx : Addr} {fs : List (Str × V)} (e : H a = some (.ins C dx fs)) (cl : Cls K C) (ha : PySem.W.findIn K (.ref C) "__class__" = some (some (.builtin "object.__class__")))
      (hn : PySem.W.specialIn K (.builtin "object.__class__") "__get__" = some (some (.builtin "getset_descriptor.__get__"))) (htk : PySem.W.takesIn K (.builtin "object.__class__") = some true)
      (hm : PySem.W.mroIn K C (.type "object") = some true) : TyOf K H (.ref a) (.ref C)
theorem isinst_ok {x : V} {u t : Value} (I : Inv X pins σ H s) (rx : RelV x u) (ty : TyOf X.K H x t) (e : PySem.W.kitOne X.K t c = some b) (h : ∀ tk, Q (.bool b) { s with toks := tk }) :
    wpAny (model X.prog X.w) A (call (.builtin "isinstance") [u, c]) Q E s := by
  cases ty with
  | non => cases (show u = Value.none from rx); exact PySem.W.kia_one PySem.W.kitx_none I.kIn True.intro e (fun z => nomatch z) h
  | bl y => cases (show u = Value.bool y from rx); exact PySem.W.kia_one PySem.W.kitx_bool I.kIn True.intro e (fun z => nomatch z) h
  | int i => obtain ⟨t, q⟩ := (show ∃ t, u = Value.int i t from rx); cases q; exact PySem.W.kia_one PySem.W.kitx_int I.kIn True.intro e (fun z => nomatch z) h
  | str y => obtain ⟨t, q⟩ := (show ∃ t, u = Value.str y t from rx); cases q; exact PySem.W.kia_one PySem.W.kitx_str I.kIn True.intro e (fun z => nomatch z) h
  | flt y => obtain ⟨t, q⟩ := (show ∃ t, u = Value.float y t from rx); cases q; exact PySem.W.kia_one PySem.W.kitx_float I.kIn True.intro e (fun z => nomatch z) h
  | @lst a xs ea =>
    cases (show u = Value.ref a from rx)
    obtain ⟨_, _, n, _, h1⟩ := (show ObjOk X.prog X.w H s.heap a (.lst xs) from I.hok a _ ea)
    exact PySem.W.kia_one PySem.W.kitx_list I.kIn ⟨_, h1, rfl⟩ e (fun z => nomatch z) h
  | @frz a ob xs ea =>
    cases (show u = Value.ref a from rx)
    obtain ⟨_, _, _, n, _, h1⟩ := (show ObjOk X.prog X.w H s.heap a (.frz ob (.lst xs)) from I.hok a _ ea)
    exact PySem.W.kia_one PySem.W.kitx_list I.kIn ⟨_, h1, rfl⟩ e (fun z => nomatch z) h
  | @tup a xs ea =>
    cases (show u = Value.ref a from rx)
    obtain ⟨_, _, _, p⟩ := (show ObjOk X.prog X.w H s.heap a (.tup xs) from I.hok a _ ea)
    obtain ⟨o, h1, h2, _⟩ := p
    exact PySem.W.kia_one PySem.W.kitx_tuple I.kIn ⟨o, h1, h2⟩ e (fun z => nomatch z) h
  | @dK a kvs ea =>
    cases (show u = Value.ref a from rx)
    obtain ⟨_, _, vs, _, p⟩ := (show ObjOk X.prog X.w H s.heap a (.dK kvs) from I.hok a _ ea)
    obtain ⟨o, es, ep, h1, h2, _⟩ := p
    exact PySem.W.kia_one PySem.W.kitx_dict I.kIn ⟨o, h1, h2.1⟩ e (fun z => nomatch z) h
  | @dT a kvs ea =>
    cases (show u = Value.ref a from rx)
    obtain ⟨_, _, xs, _, o, es, ep, h1, h2, _⟩ := (show ObjOk X.prog X.w H s.heap a (.dT kvs) from I.hok a _ ea)
    exact PySem.W.kia_one PySem.W.kitx_dict I.kIn ⟨o, h1, h2.1⟩ e (fun z => nomatch z) h
  | @ins a C dx fs ea cl ha hn htk hm =>
    cases (show u = Value.ref a from rx)
    obtain ⟨mA, O, _⟩ := ins_get I.hok ea
    obtain ⟨od, J, _⟩ := O.look
    exact PySem.W.kia_one (PySem.W.kitx_own (cl.get _) cl.hd ha hn htk hm) I.kIn J e (fun z => nomatch z) h
end
end L2
namespace L2
open PySem PySem.Spec PyProof.Rows
structure Room (k : Nat) (A : Around) : Prop where
  hd : A.handled = none
  dp : A.depth + 3 * k + 5 < recursionLimit
  un : A.units + 16 * k + 200 < cLine
theorem Room.mono {j k : Nat} {A : Around} (r : Room k A) (h : j ≤ k) : Room j A := ⟨r.hd, by have := r.dp; omega, by have := r.un; omega⟩
theorem Room.deeper {k : Nat} {A : Around} (r : Room (k + 1) A) (env : Env) : Room k (A.deeper env) :=
  ⟨r.hd, by have := r.dp; show A.depth + 1 + 3 * k + 5 < _; omega, by have := r.un; show A.units + 3 + 16 * k + 200 < _; omega⟩
theorem make_depth {A : Around} {C : Addr} {us : List Value} {kw : List (Str × Value)} : (A.under (.builtin "type.__call__" ⟨.ref C :: us, kw⟩)).depth = A.depth + 1 := by
  first | rfl | simp [Around.under, Code.weight, Code.isCreation, Code.isGuard, Code.isCaller, Code.frames, Code.isFrame, guardIds]
theorem make_units {A : Around} {C : Addr} {us : List Value} {kw : List (Str × Value)} : (A.under (.builtin "type.__call__" ⟨.ref C :: us, kw⟩)).units = A.units + 1 := by
  first | rfl | simp [Around.under, Code.cUnits, Code.frames, Code.isFrame]
theorem Room.make {k : Nat} {A : Around} (r : Room (k + 1) A) (C : Addr) (us : List Value) (kw : List (Str × Value)) : Room k (A.under (.builtin "type.__call__" ⟨.ref C :: us, kw⟩)) :=
  ⟨r.hd, by have := r.dp; rw [make_depth]; omega, by have := r.un; rw [make_units]; omega⟩
theorem Room.depth {k : Nat} {A : Around} (r : Room k A) : A.depth < recursionLimit := by have := r.dp; omega
theorem Room.units {k : Nat} {A : Around} (r : Room k A) : A.units + 64 < cLine := by have := r.un; omega
def tNil : TA := fun _ H Q => Q [] H
def tCons (ta : TE) (tr : TA) : TA := fun σ H Q => ta σ H fun x H1 => tr σ H1 fun xs H2 => Q (x :: xs) H2
section
variable {X : Cx} {e : Expr} {es : List Expr} {te : TE} {t : TA} {pos : Pos}
theorem pa_nil : PA X [] tNil := fun _ _ _ _ H Q I h => Calls.spliced_nil ⟨[], H, I, .nil, h⟩
theorem pa_cons (ha : PE X e te) (hr : PA X es t) (hs : starEach (e :: es) X.env = (false, eval e X.env) :: starEach es X.env := by rfl) : PA X (e :: es) (tCons te t) := by
  intro pos pins s σ H Q I h
  rw [hs]
  show wpAny _ _ (spliced ((false, eval e X.env) :: backTo pos (starEach es X.env))) _ _ s
  refine Calls.spliced_cons (thn (ha pins s σ H _ I h) fun u s1 ⟨x, H1, I1, r1, q1⟩ => ?_)
  exact thn (hr pos pins s1 σ H1 _ I1 q1) fun us s2 ⟨xs, H2, I2, r2, q2⟩ => ⟨x :: xs, H2, I2, .cons r1 r2, q2⟩
end
abbrev Sp := List V → Hp → VK → XK → Prop
abbrev CXT := List Env → Hp → Shared → XK → Value → Shared → Prop
structure Env0 (P : Program) (w : World) (K : PySem.W.Frag) (mg : Str → Option Value) (base : Heap) (A : Around) (outer : List Env) (s : Shared) (H : Hp) : Prop where
  frames : A.frames = some outer
  mod : Mod K mg base
  bs : ∀ b o, base.get? b = some o → s.heap.get? b = some o ∧ H b = none
  bsz : base.objs.size ≤ s.heap.objs.size
  funs : s.heap.FunFrames base outer
  frf : ∀ b ∈ frs outer, H b = none
  hok : HOk P w H s.heap
  bare : AllBare s.gens
def CE (outer : List Env) (P : Program) (w : World) (H : Hp) (s : Shared) (Q : VK) (u : Value) (s' : Shared) : Prop :=
  ∃ v H', s'.os = s.os ∧ AllBare s'.gens ∧ Un (frs outer) [] H H' s.heap s'.heap ∧ HOk P w H' s'.heap ∧ RelV v u ∧ Q v H'
def CR (CX : CXT) (outer : List Env) (P : Program) (w : World) (H : Hp) (s : Shared) (Q : VK) (E : XK) (r : Result) (s' : Shared) : Prop :=
  match r with
  | .ok (.ret u) => CE outer P w H s Q u s'
  | .ok _ => False
  | .error e => CX outer H s E e s'
structure FnOk (P : Program) (w : World) (K : PySem.W.Frag) (mg : Str → Option Value) (base : Heap) (CX : CXT) (k : Nat) (f : Addr) (fd : FuncData) (ps : List Str) (sp : Sp) : Prop where
  len : ∀ vs H Q E, sp vs H Q E → vs.length = ps.length
  run : ∀ (A : Around) (outer : List Env) (s : Shared) (H : Hp) (args : Args) (us : List Value) (vs : List V) (Q : VK) (E : XK), Room k A → Env0 P w K mg base A outer s H → BindsTo s fd args (ps.zip us) → Vals vs us → sp vs H Q E →
    codeAny (model P w) A (.call (.ref f) args) (CR CX outer P w H s Q E) s
theorem Env0.make {P : Program} {w : World} {K : PySem.W.Frag} {mg : Str → Option Value} {base : Heap} {A : Around} {outer : List Env} {s : Shared} {H : Hp} (e : Env0 P w K mg base A outer s H) (C : Addr) (us : List Value) (kw : List (Str × Value)) :
    Env0 P w K mg base (A.under (.builtin "type.__call__" ⟨.ref C :: us, kw⟩)) outer s H := ⟨by first | exact e.frames | (simpa [Around.under, Code.envs, Code.isFrame, pushEnvs] using e.frames), e.mod, e.bs, e.bsz, e.funs, e.frf, e.hok, e.bare⟩
section
variable {X : Cx} {pins : List (Addr × Obj)} {σ : St} {H : Hp} {s s' : Shared}
theorem Inv.env0 (I : Inv X pins σ H s) : Env0 X.prog X.w X.K X.mg X.base X.A X.stack s H :=
  ⟨I.ok.frames, I.ok.mod, I.bs, Nat.le_trans I.ok.bsz I.sz, I.stack, I.stkFree, I.hok, I.bare⟩
theorem Inv.after {Q : VK} {u : Value} (I : Inv X pins σ H s) (h : CE X.stack X.prog X.w H s Q u s') : EP X pins σ Q u s' := by
  obtain ⟨v, H', os, bare, un, hok, r, q⟩ := h
  obtain ⟨hh, g, d, t, os'⟩ := s'
  obtain rfl : os' = s.os := os
  exact ⟨v, H', I.call (h' := hh) (g' := g) (d' := d) (t' := t) (ch := []) un hok bare (fun b z => absurd z (by simp)), r, q⟩
end
def tCall (sp : Sp) (dvs : List V) (E : XK) (t : TA) : TE := fun σ H Q => t σ H fun vs H1 => sp (vs ++ dvs) H1 Q E
def tMeth (C : Addr) (m : Str) (sp : Sp) (dvs : List V) (E : XK) (ta : TE) (t : TA) : TE := fun σ H Q => ta σ H fun x H1 => ∃ a dx fs, x = .ref a ∧ H1 a = some (.ins C dx fs) ∧ fs.lookup m = none ∧
  t σ H1 fun vs H2 => sp (x :: (vs ++ dvs)) H2 Q E
def tMake (C : Addr) (sp : Sp) (dvs : List V) (E : XK) (t : TA) : TE := fun σ H Q => t σ H fun vs H1 => ∀ x dx, H1 x = none → H1 dx = none → dx ≠ x →
  sp (.ref x :: (vs ++ dvs)) (upd (upd H1 dx (.own x)) x (.ins C dx [])) (fun v H2 => v = .non ∧ Q (.ref x) H2) E
def Binds (K : PySem.W.Frag) (fd : FuncData) (ps : List Str) (ds : List Value) : Prop :=
  ∀ (s : Shared) (us : List Value), K.In s.heap → (us ++ ds).length = ps.length → BindsTo s fd ⟨us, []⟩ (ps.zip (us ++ ds))
theorem Binds.all {K : PySem.W.Frag} {fd : FuncData} {ps : List Str} (h : ∀ us : List Value, us.length = ps.length → bindArgs fd ⟨us, []⟩ = pure (ps.zip us)) : Binds K fd ps [] := fun s us _ hl => by
  rw [List.append_nil] at hl ⊢
  exact .of_eq (h us hl)
def Passes (CX : CXT) (X : Cx) (E : XK) : Prop := ∀ (pins : List (Addr × Obj)) (σ : St) (H : Hp) (s : Shared) (e : Value) (s' : Shared), Inv X pins σ H s → CX X.stack H s E e s' → X.xe e s'
section
variable {X : Cx} {CX : CXT} {k : Nat} {f C : Addr} {fd : FuncData} {ps : List Str} {sp : Sp} {dvs : List V} {ds : List Value} {E : XK} {x m : Str} {p pos apos : Pos} {e o : Expr} {es : List Expr} {ta : TE} {t : TA}
theorem run_fn {pins : List (Addr × Obj)} {σ : St} {H : Hp} {s : Shared} {Q : VK} {us : List Value} {vs : List V} (F : FnOk X.prog X.w X.K X.mg X.base CX k f fd ps sp) (hr : Room k X.A) (hb : Binds X.K fd ps ds) (hd : Vals dvs ds) (hx : Passes CX X E)
    (I : Inv X pins σ H s) (r : Vals vs us) (h : sp (vs ++ dvs) H Q E) : wpAny (model X.prog X.w) X.A (call (.ref f) us) (EP X pins σ Q) X.xe s := by
  have r2 : Vals (vs ++ dvs) (us ++ ds) := r.append hd
  have hl : (us ++ ds).length = ps.length := by rw [← r2.length]; exact F.len _ _ _ _ h
  refine wpAny_call (codeAny_mono (F.run X.A X.stack s H ⟨us, []⟩ (us ++ ds) (vs ++ dvs) Q E hr I.env0 (hb s us I.kIn hl) r2 h) fun r s' hq => ?_)
  cases r with
  | error e => exact hx pins σ H s e s' I hq
  | ok fl =>
    cases fl with
    | ret u => exact I.after hq
    | next => exact False.elim hq
    | brk => exact False.elim hq
    | cont => exact False.elim hq
theorem pe_call (F : FnOk X.prog X.w X.K X.mg X.base CX k f fd ps sp) (hr : Room k X.A) (hg : Gl X x) (hm : X.mg x = some (.ref f)) (hk : PySem.W.keepIn X.K (.ref f) = true) (hb : Binds X.K fd ps ds) (hd : Vals dvs ds) (hx : Passes CX X E)
    (ha : PA X (e :: es) t) (hdb : (x == ("__debug__" : Str)) = false := by decide) (he : starEach (e :: es) X.env = (false, eval e X.env) :: starEach es X.env := by rfl) (hpl : (backTo pos (starEach es X.env)).any (·.1) = false := by rfl) :
    PE X (.Call (.Name x p) (e :: es) [] pos) (tCall sp dvs E t) := by
  intro pins s σ H Q I h
  refine wpAny_Call_Name_kw (ld_glob I hg hm ?_ hdb)
  refine PySem.W.callWith_K (h₀ := X.base) I.ok.mod.kin hk (thn (ha pos pins s σ H _ I h) fun us s1 ⟨vs, H1, I1, r, q⟩ => ⟨I1.kIn, ?_⟩) he hpl
  exact run_fn F hr hb hd hx I1 r q
theorem pe_meth {pl : Sem Bool} (he : PE X o ta) (c : Cls X.K C) (hm : Meth X.K C m f) (F : FnOk X.prog X.w X.K X.mg X.base CX k f fd ps sp) (hr : Room k X.A) (hb : Binds X.K fd ps ds) (hd : Vals dvs ds) (hx : Passes CX X E) (ha : PA X (e :: es) t)
    (hst : starEach (e :: es) X.env = (false, eval e X.env) :: starEach es X.env := by rfl) (hpl : (backTo pos (starEach es X.env)).any (·.1) = false := by rfl)
    (ht : eval (.Call (.Attribute o m apos) (e :: es) [] pos) X.env = (do
      let ov ← eval o X.env
      standAt apos.atName
      let (f, first) ← holding [ov] (getMethod ov m pl)
      callWith pos f first (backTo pos (starEach (e :: es) X.env)) (backToKw pos (keywordEach [] X.env))) := by rfl) :
    PE X (.Call (.Attribute o m apos) (e :: es) [] pos) (tMeth C m sp dvs E ta t) := by
  intro pins s σ H Q I h
  refine PySem.W.methodCall_KW (pl := pl) (thn (he pins s σ H _ I h) fun u s1 ⟨x, H1, I1, rx, a, dx, fs, ex, ea, l, q⟩ => ?_) ht
  subst ex
  obtain rfl : u = Value.ref a := rx
  refine getmeth_ok I1 ea c hm l ?_
  refine PySem.W.callWith_K (first := [.ref a]) (h₀ := X.base) I.ok.mod.kin hm.kp (thn (ha pos pins s1 σ H1 _ I1 q) fun us s2 ⟨vs, H2, I2, r, q2⟩ => ⟨I2.kIn, ?_⟩) hst hpl
  exact run_fn (us := .ref a :: us) (vs := .ref a :: vs) F hr hb hd hx I2 (.cons rfl r) q2
theorem pe_meth0 {pl : Sem Bool} (he : PE X o ta) (c : Cls X.K C) (hm : Meth X.K C m f) (F : FnOk X.prog X.w X.K X.mg X.base CX k f fd ps sp) (hr : Room k X.A) (hb : Binds X.K fd ps ds) (hd : Vals dvs ds) (hx : Passes CX X E)
    (ht : eval (.Call (.Attribute o m apos) [] [] pos) X.env = (do
      let ov ← eval o X.env
      standAt apos.atName
      let (f, first) ← holding [ov] (getMethod ov m pl)
      callWith pos f first (backTo pos (starEach [] X.env)) (backToKw pos (keywordEach [] X.env))) := by rfl) :
    PE X (.Call (.Attribute o m apos) [] [] pos) (tMeth C m sp dvs E ta tNil) := by
  intro pins s σ H Q I h
  refine PySem.W.methodCall_KW (pl := pl) (thn (he pins s σ H _ I h) fun u s1 ⟨x, H1, I1, rx, a, dx, fs, ex, ea, l, q⟩ => ?_) ht
  subst ex
  obtain rfl : u = Value.ref a := rx
  refine getmeth_ok I1 ea c hm l ?_
  exact PySem.W.callWith_K0 (first := [.ref a]) I1.kIn hm.kp (run_fn (us := [.ref a]) (vs := [.ref a]) F hr hb hd hx I1 (.cons rfl .nil) q)
structure Mk (K : PySem.W.Frag) (C f : Addr) : Prop where
  makes : PySem.W.makesIn K C = true
  init : PySem.W.findIn K (.ref C) "__init__" = some (some (.ref f))
  fn : PySem.W.isFn K (.ref f) = true
  kp : PySem.W.keepIn K (.ref C) = true
theorem run_make {pins : List (Addr × Obj)} {σ : St} {H : Hp} {s : Shared} {Q : VK} {us : List Value} {vs : List V} (M : Mk X.K C f) (F : FnOk X.prog X.w X.K X.mg X.base CX k f fd ps sp) (hr : Room (k + 1) X.A) (hb : Binds X.K fd ps ds) (hd : Vals dvs ds)
    (hx : Passes CX X E) (I : Inv X pins σ H s) (r : Vals vs us)
    (h : ∀ x dx, H x = none → H dx = none → dx ≠ x → sp (.ref x :: (vs ++ dvs)) (upd (upd H dx (.own x)) x (.ins C dx [])) (fun v H2 => v = .non ∧ Q (.ref x) H2) E) :
    wpAny (model X.prog X.w) X.A (call (.ref C) us) (EP X pins σ Q) X.xe s := by
  have hq := h (s.heap.objs.size + 1) s.heap.objs.size (I.hok.fresh (Nat.le_succ _)) (I.hok.fresh (Nat.le_refl _)) (Nat.ne_of_lt (Nat.lt_succ_self _))
  have I2 := Inv.made (C := C) I
  have r2 : Vals (V.ref (s.heap.objs.size + 1) :: (vs ++ dvs)) (Value.ref (s.heap.objs.size + 1) :: (us ++ ds)) := .cons rfl (r.append hd)
  have hl : (Value.ref (s.heap.objs.size + 1) :: us ++ ds).length = ps.length := by
    have e := r2.length
    rw [F.len _ _ _ _ hq] at e
    exact e.symm
  refine wpAny_call (make_map (f := f) I.kIn M.makes M.init (beq_iff_eq.mp M.fn) (codeAny_mono (F.run _ X.stack _ _ ⟨Value.ref (s.heap.objs.size + 1) :: us, []⟩ (Value.ref (s.heap.objs.size + 1) :: (us ++ ds)) _ _ E (hr.make C us [])
    (I2.env0.make C us []) (hb _ (Value.ref (s.heap.objs.size + 1) :: us) I2.kIn hl) r2 hq) fun r s' hq' => ?_))
  cases r with
  | error e => exact hx pins σ _ _ e s' I2 hq'
  | ok fl =>
    cases fl with
    | ret u =>
      obtain ⟨v, H', I3, rv, ev, q3⟩ := I2.after hq'
      subst ev
      exact ⟨rv, ⟨V.ref (s.heap.objs.size + 1), H', I3, rfl, q3⟩⟩
    | next => exact False.elim hq'
    | brk => exact False.elim hq'
    | cont => exact False.elim hq'
theorem pe_make0 (M : Mk X.K C f) (F : FnOk X.prog X.w X.K X.mg X.base CX k f fd ps sp) (hr : Room (k + 1) X.A) (hg : Gl X x) (hm : X.mg x = some (.ref C)) (hb : Binds X.K fd ps ds) (hd : Vals dvs ds) (hx : Passes CX X E)
    (hdb : (x == ("__debug__" : Str)) = false := by decide) : PE X (.Call (.Name x p) [] [] pos) (tMake C sp dvs E tNil) := by
  intro pins s σ H Q I h
  refine wpAny_Call_Name_kw (ld_glob I hg hm ?_ hdb)
  exact PySem.W.callWith_K0 I.kIn M.kp (run_make (us := []) M F hr hb hd hx I .nil h)
end
section
variable {X : Cx} {CX : CXT} {k : Nat} {f C : Addr} {fd : FuncData} {ps ks : List Str} {sp : Sp} {E : XK} {x m : Str} {p pos apos kpos : Pos} {e o : Expr} {es : List Expr} {kws : List Keyword} {te ta : TE} {t tk : TA} {nm : Option Str}
variable {g : List Value → List Value → List Value} {gV : List V → List V → List V}
end
structure FnScope (N P : List Str) (sc : Scope) : Prop where
  kind : sc.kind = .function
  co : sc.isCoroutine = false
  gen : sc.isGenerator = false
  nd : N.Nodup
  pre : N.take P.length = P
  par : ∀ x ∈ P, sc.names.lookup x = some .local ∨ sc.names.lookup x = some .cell
  nofree : ∀ y ∈ sc.names, y.2 ≠ .free
theorem bindL_out {kindOf : Str → Option NameKind} {x : Str} : ∀ {binds : List (Str × Value)} {m : Str → Option Value}, (∀ v, (x, v) ∉ binds) → bindL kindOf binds m x = m x
  | [], _, _ => rfl
  | (n, v) :: r, m, h => by
    unfold bindL
    rw [bindL_out fun w hw => h w (List.mem_cons_of_mem _ hw)]
    split
    · have : x ≠ n := by rintro rfl; exact h v List.mem_cons_self
      simp [this]
    · rfl
theorem bindC_out {kindOf : Str → Option NameKind} {x : Str} : ∀ {binds : List (Str × Value)} {m : Str → Option Value}, (∀ v, (x, v) ∉ binds) → bindC kindOf binds m x = m x
  | [], _, _ => rfl
  | (n, v) :: r, m, h => by
    unfold bindC
    rw [bindC_out fun w hw => h w (List.mem_cons_of_mem _ hw)]
    split
    · rfl
    · have : x ≠ n := by rintro rfl; exact h v List.mem_cons_self
      simp [this]
theorem bindL_get {kindOf : Str → Option NameKind} {x : Str} {v : Value} : ∀ {P : List Str} {vs : List Value} {i : Nat} {m : Str → Option Value}, P.Nodup → P[i]? = some x → vs[i]? = some v → kindOf x = some .local →
    bindL kindOf (P.zip vs) m x = some v
  | [], _, _, _, _, h, _, _ => by simp at h
  | _ :: _, [], _, _, _, _, h, _ => by simp at h
  | p :: P, w :: vs, 0, m, nd, h1, h2, hk => by
    simp at h1 h2; subst h1; subst h2
    show bindL kindOf ((p, w) :: P.zip vs) m p = _
    unfold bindL
    rw [bindL_out fun v hv => (List.nodup_cons.mp nd).1 (List.of_mem_zip hv).1, if_pos hk]
    simp
  | p :: P, w :: vs, i + 1, m, nd, h1, h2, hk => by
    show bindL kindOf ((p, w) :: P.zip vs) m x = _
    unfold bindL
    exact bindL_get (i := i) (List.nodup_cons.mp nd).2 (by simpa using h1) (by simpa using h2) hk
theorem bindC_get {kindOf : Str → Option NameKind} {x : Str} {v : Value} : ∀ {P : List Str} {vs : List Value} {i : Nat} {m : Str → Option Value}, P.Nodup → P[i]? = some x → vs[i]? = some v → kindOf x ≠ some .local →
    bindC kindOf (P.zip vs) m x = some v
  | [], _, _, _, _, h, _, _ => by simp at h
  | _ :: _, [], _, _, _, _, h, _ => by simp at h
  | p :: P, w :: vs, 0, m, nd, h1, h2, hk => by
    simp at h1 h2; subst h1; subst h2
    show bindC kindOf ((p, w) :: P.zip vs) m p = _
    unfold bindC
    rw [bindC_out fun v hv => (List.nodup_cons.mp nd).1 (List.of_mem_zip hv).1, if_neg hk]
    simp
  | p :: P, w :: vs, i + 1, m, nd, h1, h2, hk => by
    show bindC kindOf ((p, w) :: P.zip vs) m x = _
    unfold bindC
    exact bindC_get (i := i) (List.nodup_cons.mp nd).2 (by simpa using h1) (by simpa using h2) hk
def start (N : List Str) (vs : List V) : St := vs.map some ++ List.replicate (N.length - vs.length) none
def cxOf (CX : CXT) (P : Program) (w : World) (K : PySem.W.Frag) (mg : Str → Option Value) (base : Heap) (N : List Str) (qual : Str) (scope : Scope) (f : Addr) (cd : Value) (A : Around) (outer : List Env) (s : Shared) (H : Hp) (E : XK) : Cx where
  prog := P
  w := w
  K := K
  mg := mg
  base := base
  A := A.deeper (envOfC qual scope s.heap.objs.size f cd)
  N := N
  s₀ := s
  H₀ := H
  env := envOfC qual scope s.heap.objs.size f cd
  outer := outer
  stack := envOfC qual scope s.heap.objs.size f cd :: outer
  ex := []
  calm := true
  fn := fun _ => true
  pn := []
  xe := fun e s' => wpAny (model P w) (A.deeper (envOfC qual scope s.heap.objs.size f cd)) (leaving (envOfC qual scope s.heap.objs.size f cd) e) (fun _ s'' => CX outer H s E e s'') (fun e' s'' => CX outer H s E e' s'') s'
theorem cell_has {sc : Scope} {n : Nat} {x : Str} (h : sc.names.lookup x = some .cell) : ∃ c, (cellsFrom n sc.names []).lookup x = some c := by
  have q := PySem.W.cellsFrom_some sc.names n [] (.inl h)
  exact Option.isSome_iff_exists.mp q
theorem inv_start {CX : CXT} {P : Program} {w : World} {K : PySem.W.Frag} {mg : Str → Option Value} {base : Heap} {N ps : List Str} {qual : Str} {scope : Scope} {f : Addr} {cd : Value} {A : Around} {outer : List Env} {s s1 : Shared} {H : Hp} {E : XK} {us : List Value} {vs : List V}
    (S : FnScope N ps scope) (hd : A.handled = none) (e0 : Env0 P w K mg base A outer s H) (hl : vs.length = ps.length) (r : Vals vs us)
    (x : InCallC s s.heap.objs.size (bindL (envOfC qual scope s.heap.objs.size f cd).kindOf (ps.zip us) fun _ => none) (cellsFrom (s.heap.objs.size + 1) scope.names []) (bindC (envOfC qual scope s.heap.objs.size f cd).kindOf (ps.zip us) fun _ => none) s1) :
    Inv (cxOf CX P w K mg base N qual scope f cd A outer s H E) [] (start N vs) H s1 := by
  have hpl : ps.length ≤ N.length := by have := congrArg List.length S.pre; rw [List.length_take] at this; omega
  obtain ⟨h1, tk, rfl, hk⟩ := x.done
  have noA : ∀ b : Addr, b ∉ (cxOf CX P w K mg base N qual scope f cd A outer s H E).ex := fun b z => absurd (show b ∈ ([] : List Addr) from z) (by simp)
  refine ⟨⟨e0.mod, S.kind, rfl, rfl, Nat.le_refl _, fun y z c h1 h2 => ?_, fun y hy => ?_, fun y c _ h => ?_, fun _ => hd, Around.frames_deeper e0.frames, .inr ⟨rfl, rfl⟩, fun b z => absurd z (noA b), e0.bs, e0.bsz, fun b _ _ => noA b, fun b z => absurd z (noA b), e0.funs, e0.frf⟩,
    rfl, e0.bare, Un.kept hk, ⟨_, x.toInCall.ns, fun i y v h1 h2 h3 => ?_⟩, fun y c h => ⟨_, x.cell y c h⟩, e0.hok.fresh (Nat.le_refl _), fun y c h => ?_, fun p hp => absurd (show p ∈ ([] : List (Addr × Obj)) from hp) (by simp), e0.hok.kept hk, ?_⟩
  · exact name_of_addr x.apart (PySem.mem_of_lookup h1) (PySem.mem_of_lookup h2)
  · have hy : scope.names.lookup y = some .cell ∨ scope.names.lookup y = some .free := hy
    rcases hy with hy | hy
    · exact cell_has hy
    · exact absurd rfl (S.nofree _ (PySem.mem_of_lookup hy))
  · exact Nat.le_of_lt (x.above y c (PySem.mem_of_lookup h))
  · have hi : i < vs.length := by
      unfold start at h2
      by_cases hi : i < vs.length
      · exact hi
      · rw [List.getElem?_append_right (by simpa using hi)] at h2
        rw [List.getElem?_replicate] at h2
        split at h2 <;> cases h2
    have ha : vs[i]? = some v := by
      unfold start at h2
      rw [List.getElem?_append_left (by simpa using hi), List.getElem?_map] at h2
      cases e : vs[i]? with
      | none => rw [e] at h2; cases h2
      | some a => rw [e] at h2; cases h2; rfl
    obtain ⟨u, hu, rv⟩ := r.get ha
    have hp : ps[i]? = some y := by
      rw [← S.pre, List.getElem?_take_of_lt (by omega)]; exact h1
    have ndP : ps.Nodup := by rw [← S.pre]; exact S.nd.sublist (List.take_sublist _ _)
    refine ⟨u, rv, ?_⟩
    rcases S.par y (List.mem_of_getElem? hp) with k | k
    · exact .inl ⟨k, bindL_get ndP hp hu k⟩
    · obtain ⟨c, e⟩ := cell_has (n := s.heap.objs.size + 1) k
      refine .inr ⟨.inl k, c, e, ?_⟩
      have q := x.cell y c e
      rw [bindC_get ndP hp hu (by show scope.names.lookup y ≠ _; rw [k]; decide)] at q
      exact q
  · exact e0.hok.fresh (Nat.le_of_lt (x.above y c (PySem.mem_of_lookup h)))
  · unfold start
    show _ = N.length
    rw [List.length_append, List.length_map, List.length_replicate]
    omega
theorem fn_of {CX : CXT} {P : Program} {w : World} {K : PySem.W.Frag} {mg : Str → Option Value} {base : Heap} {k : Nat} {f : Addr} {name qual : Str} {params : Arguments} {body : List Stmt} {scope : Scope} {dV kV doc pm cdv ct oc : Value} {an od : Option Addr}
    {osl : Array (Option Value)} {N ps : List Str} {sp : Sp} (lk : K.lookup f = some ⟨oc, od, .func (PySem.W.fnOf name qual params body scope dV kV doc pm an cdv ct), osl⟩) (hcd : PySem.W.codeIn K cdv qual = true) (S : FnScope N ps scope)
    (len : ∀ vs H Q E, sp vs H Q E → vs.length = ps.length)
    (hbody : ∀ (A : Around) (outer : List Env) (s : Shared) (H : Hp) (vs : List V) (Q : VK) (E : XK), Room k (A.deeper (envOfC qual scope s.heap.objs.size f cdv)) → sp vs H Q E →
      ∃ t, PSs (cxOf CX P w K mg base N qual scope f cdv A outer s H E) body t ∧ t { nx := fun _ H' => Q .non H', rt := Q } (start N vs) H) :
    FnOk P w K mg base CX (k + 1) f (PySem.W.fnOf name qual params body scope dV kV doc pm an cdv ct) ps sp := by
  refine ⟨len, fun A outer s H args us vs Q E hr e0 hb r hsp => ?_⟩
  have hl := len _ _ _ _ hsp
  have KX : K.In s.heap := e0.mod.kin.keeps fun b o e => (e0.bs b o e).1
  have lim : s.heap.NoLimit := e0.mod.nolimit.keeps fun b o e => (e0.bs b o e).1
  have hkind : ∀ y ∈ ps.zip us, scope.names.lookup y.1 = some .local ∨ (scope.names.lookup y.1 = some .cell ∧ ((cellsFrom (s.heap.objs.size + 1) scope.names []).lookup y.1).isSome = true) := fun ⟨n, v⟩ hy => by
    rcases S.par n (List.of_mem_zip hy).1 with q | q
    · exact .inl q
    · exact .inr ⟨q, PySem.W.cellsFrom_some _ _ _ (.inl q)⟩
  refine codeAny_call_function hr.depth (KX _ _ lk) rfl S.co S.gen rfl (PySem.W.codeRec_of KX hcd) (hb _ _ _ _ ?_)
  refine wpAny_newFunctionEnv_cells S.kind hkind fun env he s1 x => ?_
  subst he
  refine ⟨lim.keeps x.toInCall.keep, codeAny_func ?_⟩
  obtain ⟨t, ht, hq⟩ := hbody A outer s H vs Q E (hr.deeper _) hsp
  have I : Inv (cxOf CX P w K mg base N qual scope f cdv A outer s H E) [] (start N vs) H s1 := inv_start S hr.hd e0 hl r x
  refine wpAny_mono (ht [] s1 (start N vs) H _ I hq) (fun fl s' hs => ?_) fun e s' hs => hs
  have fin : ∀ {σ' : St} {H' : Hp} {v : V} {u : Value}, Inv (cxOf CX P w K mg base N qual scope f cdv A outer s H E) [] σ' H' s' → RelV v u → Q v H' → CE outer P w H s Q u s' :=
    fun {σ' H' v u} J rv q => ⟨v, H', J.os, J.bare, J.base, J.hok, rv, q⟩
  cases fl with
  | ret u =>
    obtain ⟨v, σ', H', J, rv, q⟩ := hs
    exact fin J rv q
  | next =>
    obtain ⟨σ', H', J, q⟩ := hs
    exact fin (v := V.non) (u := Value.none) J rfl q
  | brk =>
    obtain ⟨_, _, _, q⟩ := hs
    exact False.elim q
  | cont =>
    obtain ⟨_, _, _, q⟩ := hs
    exact False.elim q
end L2
namespace L2
open PySem PySem.Spec PyProof.Rows
section
variable {X : Cx} {x : Str} {p pos : Pos} {e : Expr} {es : List Expr} {t : TA} {id T : String} {r : List V → Hp → VK → Prop}
def tCB (r : List V → Hp → VK → Prop) (t : TA) : TE := fun σ H Q => t σ H fun vs H1 => r vs H1 Q
theorem pe_callB (hc : CallR X (.builtin id) r) (hg : Gl X x) (hm : X.mg x = none) (hv : bootBuiltins x = some (.builtin id)) (ha : PA X (e :: es) t) (hn : x ≠ "__name__" := by decide) (hdb : (x == ("__debug__" : Str)) = false := by decide)
    (he : starEach (e :: es) X.env = (false, eval e X.env) :: starEach es X.env := by rfl) (hpl : (backTo pos (starEach es X.env)).any (·.1) = false := by rfl) : PE X (.Call (.Name x p) (e :: es) [] pos) (tCB r t) := by
  intro pins s σ H Q I h
  refine wpAny_Call_Name_kw (ld_blt I hg hm hv ?_ hn hdb)
  exact PyProof.Rows.callWith_builtin1 (thn (ha pos pins s σ H _ I h) fun us s1 ⟨vs, H1, I1, r1, q1⟩ => hc pins s1 σ H1 vs us Q I1 r1 q1) he hpl
theorem pe_callTy (hc : CallR X (.type T) r) (hg : Gl X x) (hm : X.mg x = none) (hv : bootBuiltins x = some (.type T)) (ha : PA X (e :: es) t) (hn : x ≠ "__name__" := by decide) (hdb : (x == ("__debug__" : Str)) = false := by decide)
    (he : starEach (e :: es) X.env = (false, eval e X.env) :: starEach es X.env := by rfl) (hpl : (backTo pos (starEach es X.env)).any (·.1) = false := by rfl) : PE X (.Call (.Name x p) (e :: es) [] pos) (tCB r t) := by
  intro pins s σ H Q I h
  refine wpAny_Call_Name_kw (ld_blt I hg hm hv ?_ hn hdb)
  exact PyProof.Rows.callWith_type1 (thn (ha pos pins s σ H _ I h) fun us s1 ⟨vs, H1, I1, r1, q1⟩ => hc pins s1 σ H1 vs us Q I1 r1 q1) he hpl
end
end L2
namespace HT
open PySem PyProof.Rows
def lexLt : List Int → List Int → Bool
  | [], [] => false
  | [], _ :: _ => true
  | _ :: _, [] => false
  | x :: xs, y :: ys => if x = y then lexLt xs ys else decide (x < y)
theorem lexLt_cons (x y : Int) (xs ys : List Int) : lexLt (x :: xs) (y :: ys) = if x = y then lexLt xs ys else decide (x < y) := rfl
section
open PySem.SeqAt
open PySem.AutoSeq1 (wpAny_loadPart')
open PySem.MeetsSeq PySem.MeetsSeq2 PySem.MeetsSeq3
end
section
variable {prog : Program} {w : World} {A : Around} {E : Value → Shared → Prop} {s : Shared}
def sIx (n d : Nat) : Option Int → Nat
  | none => d
  | some v => if v < 0 then (v + (n : Int)).toNat else min v.toNat n
theorem sIx_none (n d : Nat) : sIx n d none = d := rfl
theorem sIx_nat (n d k : Nat) : sIx n d (some (k : Int)) = min k n := by
  show (if (k : Int) < 0 then ((k : Int) + (n : Int)).toNat else min (k : Int).toNat n) = min k n
  rw [if_neg (by omega), Int.toNat_natCast]
end
end HT
namespace L2
open PySem PySem.Spec PyProof.Rows
abbrev TO := St → Hp → (Option Int → Hp → Prop) → Prop
def PO (X : Cx) (e : Option Expr) (t : TO) : Prop :=
  ∀ (pins : List (Addr × Obj)) (s : Shared) (σ : St) (H : Hp) (Q : Option Int → Hp → Prop), Inv X pins σ H s → t σ H Q →
    wpAny (model X.prog X.w) X.A (evalPart e X.env) (fun u s' => ∃ o H', Inv X pins σ H' s' ∧ IsPart u o ∧ Q o H') X.xe s
def tNoPart : TO := fun _ H Q => Q none H
def tPart (t : TE) : TO := fun σ H Q => t σ H fun x H1 => ∃ i, x = .int i ∧ Q (some i) H1
theorem intsAre_of {ns : List Int} : ∀ {us : List Value}, Vals (ns.map V.int) us → IntsAre us ns := by
  induction ns with
  | nil => intro us r; rw [List.map_nil] at r; cases r; exact .nil
  | cons n ns ih =>
    intro us r
    rw [List.map_cons] at r
    cases r with
    | cons r1 r2 =>
      obtain ⟨t, e⟩ := r1
      subst e
      exact .cons n t (ih r2)
section
variable {X : Cx} {e : Expr} {te : TE} {lo hi : Option Expr} {tl th : TO} {pos p2 : Pos}
theorem po_none : PO X none tNoPart := by
  intro pins s σ H Q I h
  rw [evalPart_none]
  exact wpAny_pure ⟨none, H, I, .none, h⟩
theorem po_some (h : PE X e te) : PO X (some e) (tPart te) := by
  intro pins s σ H Q I hw
  rw [evalPart_some]
  refine thn (h pins s σ H _ I hw) fun u s1 ⟨x, H1, I1, r1, q1⟩ => ?_
  obtain ⟨i, rfl, q⟩ := q1
  obtain ⟨t, rfl⟩ := r1
  exact ⟨some i, H1, I1, .int i t, q⟩
def SlR (X : Cx) (r : V → Option Int → Option Int → Hp → VK → Prop) : Prop :=
  ∀ (pins : List (Addr × Obj)) (s : Shared) (σ : St) (H : Hp) (x : V) (v vl vu : Value) (lo hi : Option Int) (sl : Addr) (Q : VK), Inv X pins σ H s → RelV x v → s.heap.IsSliceOf sl vl vu .none → IsPart vl lo → IsPart vu hi → r x lo hi H Q →
    ∃ T id, typeLookup (.type T) "__getitem__" = pure (some (.builtin id)) ∧ s.TypeIs v T ∧ wpAny (model X.prog X.w) X.A (getItem v (.ref sl)) (EP X pins σ Q) X.xe s
def tSl (r : V → Option Int → Option Int → Hp → VK → Prop) (te : TE) (tl th : TO) : TE := fun σ H Q => te σ H fun x H1 => tl σ H1 fun l H2 => th σ H2 fun u H3 => r x l u H3 Q
theorem pe_slice {r : V → Option Int → Option Int → Hp → VK → Prop} (hr : SlR X r) (he : PE X e te) (hl : PO X lo tl) (hu : PO X hi th) : PE X (.Subscript e (.Slice lo hi none p2) pos) (tSl r te tl th) := by
  intro pins s σ H Q I h
  refine Subscript_ (thn (he pins s σ H _ I h) fun v s1 ⟨x, H1, I1, r1, q1⟩ => ?_)
  refine wpAny_Slice (thn (hl pins s1 σ H1 _ I1 q1) fun vl s2 ⟨l, H2, I2, pl, q2⟩ => thn (hu pins s2 σ H2 _ I2 q2) fun vu s3 ⟨u, H3, I3, pu, q3⟩ => ?_)
  rw [evalPart_none]
  refine wpAny_pure ?_
  have I4 : Inv X pins σ H3 { s3 with heap := s3.heap.push { cls := .type "slice", data := .fields #[vl, vu, .none] } } := I3.kept (t' := s3.toks) fun b ob q => Heap.get?_push_of_some _ q
  obtain ⟨T, id, hT, ht, hg⟩ := hr pins { s3 with heap := s3.heap.push { cls := .type "slice", data := .fields #[vl, vu, .none] } } σ H3 x v vl vu l u s3.heap.objs.size Q I4 r1 (Heap.IsSliceOf.new ..) pl pu q3
  show wpAny (model X.prog X.w) X.A (subscriptTail e (.Slice lo hi none p2) v (.ref s3.heap.objs.size)) (EP X pins σ Q) X.xe { s3 with heap := s3.heap.push { cls := .type "slice", data := .fields #[vl, vu, .none] } }
  exact tail_any (ops := [.ref s3.heap.objs.size, v]) ht hT hg (by with_unfolding_all rfl)
def cutV (xs : List V) (lo hi : Option Int) : List V := (xs.drop (HT.sIx xs.length 0 lo)).take (HT.sIx xs.length xs.length hi - HT.sIx xs.length 0 lo)
theorem cutV_length (xs : List V) (lo hi : Option Int) : (cutV xs lo hi).length ≤ xs.length := by
  unfold cutV
  rw [List.length_take, List.length_drop]
  omega
end
end L2
namespace L2
open PySem PySem.Spec PyProof.Rows
def ixN (n : Nat) (i : Int) : Option Nat := if 0 ≤ i then (if i < n then some i.toNat else none) else if -(n : Int) ≤ i then some (i + n).toNat else none
def atI {α : Type} (xs : List α) (i : Int) : Option α := (ixN xs.length i).bind fun j => xs[j]?
theorem ixN_seq {n : Nat} {i : Int} {j : Nat} (h : ixN n i = some j) : seqIndex? i n = some j ∧ j < n ∧ -(n : Int) ≤ i ∧ i < n := by
  unfold ixN at h
  by_cases h0 : 0 ≤ i
  · rw [if_pos h0] at h
    by_cases h1 : i < n
    · rw [if_pos h1] at h
      have e : i.toNat = j := Option.some.inj h
      exact ⟨by rw [seqIndex_of h0 h1, e], by omega, by omega, h1⟩
    · rw [if_neg h1] at h; cases h
  · rw [if_neg h0] at h
    by_cases h1 : -(n : Int) ≤ i
    · rw [if_pos h1] at h
      have e : (i + n).toNat = j := Option.some.inj h
      exact ⟨by rw [seqIndex_neg (by omega) h1, e], by omega, h1, by omega⟩
    · rw [if_neg h1] at h; cases h
theorem atI_get {α : Type} {xs : List α} {i : Int} {v : α} (h : atI xs i = some v) : ∃ j, seqIndex? i xs.length = some j ∧ xs[j]? = some v ∧ j < xs.length ∧ -(xs.length : Int) ≤ i ∧ i < xs.length := by
  unfold atI at h
  cases e : ixN xs.length i with
  | none => rw [e] at h; cases h
  | some j =>
    rw [e] at h
    obtain ⟨h1, h2, h3, h4⟩ := ixN_seq e
    exact ⟨j, h1, h, h2, h3, h4⟩
theorem atI_nat {α : Type} {xs : List α} {j : Nat} {v : α} (h : xs[j]? = some v) : atI xs (j : Int) = some v := by
  have hj : j < xs.length := (List.getElem?_eq_some_iff.mp h).1
  have e : ixN xs.length (j : Int) = some j := by
    unfold ixN
    rw [if_pos (by omega), if_pos (by omega)]; simp
  unfold atI; rw [e]; exact h
def PlainIx (b : Expr) : Prop := ∀ o i, subscripted b false o i = operate [o, i] (getItem o i)
def IxR (X : Cx) (r : R2) : Prop :=
  ∀ (value slice : Expr) (pins : List (Addr × Obj)) (s : Shared) (σ : St) (H : Hp) (x y : V) (v u : Value) (Q : VK), Inv X pins σ H s → RelV x v → RelV y u → r x y H Q →
    subscripted slice false v u = operate [v, u] (getItem v u) → wpAny (model X.prog X.w) X.A (subscriptTail value slice v u) (EP X pins σ Q) X.xe s
def MtR (X : Cx) (id : String) (r : V → List V → Hp → VK → Prop) : Prop :=
  ∀ (pins : List (Addr × Obj)) (s : Shared) (σ : St) (H : Hp) (x : V) (xs : List V) (v : Value) (us : List Value) (Q : VK), Inv X pins σ H s → RelV x v → Vals xs us → r x xs H Q →
    wpAny (model X.prog X.w) X.A (call (.builtin id) (v :: us)) (EP X pins σ Q) X.xe s
section
variable {X : Cx} {a b : Expr} {ta tb : TE} {pos : Pos}
theorem pe_ix {r : R2} (hr : IxR X r) (ha : PE X a ta) (hb : PE X b tb) (hs : PlainIx b) : PE X (.Subscript a b pos) (tOp r ta tb) := by
  intro pins s σ H Q I h
  exact Subscript_ (binT ha hb I h fun v u s2 x y H2 I2 rx ry q => hr a b pins s2 σ H2 x y v u Q I2 rx ry q (hs _ _))
def rIxL (K : PySem.W.Frag) : R2 := fun x y H Q => ∃ p xs i v, x = .ref p ∧ y = .int i ∧ SqL K H p xs ∧ atI xs i = some v ∧ Q v H
def rIxT (K : PySem.W.Frag) : R2 := fun x y H Q => ∃ p xs i v, x = .ref p ∧ y = .int i ∧ SqT K H p xs ∧ atI xs i = some v ∧ Q v H
theorem ix_list : IxR X (rIxL X.K) := by
  intro value slice pins s σ H x y v u Q I rx ry h hs
  obtain ⟨p, xs, i, z, rfl, rfl, hq, he, q⟩ := h
  cases rx
  obtain ⟨t, rfl⟩ := ry
  obtain ⟨its, r, pl, hz⟩ := I.list hq
  obtain ⟨j, h1, h2, h3, h4, h5⟩ := atI_get he
  obtain ⟨w, ew, rw'⟩ := r.get h2
  have hl := r.length
  have hn := line63
  have fin : EP X pins σ Q w s := ⟨z, H, I, rw', q⟩
  by_cases h0 : 0 ≤ i
  · have hj : i.toNat = j := by
      rw [seqIndex_of h0 h5] at h1
      exact Option.some.inj h1
    exact item_listR pl.isList h0 (by omega) (by rw [hj]; simpa using ew) fin hs
  · have hj : (i + (its.toArray.size : Int)).toNat = j := by
      rw [seqIndex_neg (by omega) h4] at h1
      rw [List.size_toArray, ← hl]
      exact Option.some.inj h1
    exact subscriptTail_builtinR (x := w) pl.isList.typeIs slot_list_getitem.lookup
      (wpAny_getItem_list_neg (Q := fun r s' => r = w ∧ EP X pins σ Q r s') pl.isList (by omega) (by rw [List.size_toArray] <;> omega) (by omega) (by rw [hj]; simpa using ew) ⟨rfl, fin⟩) hs
theorem ix_tup : IxR X (rIxT X.K) := by
  intro value slice pins s σ H x y v u Q I rx ry h hs
  obtain ⟨p, xs, i, z, rfl, rfl, hq, he, q⟩ := h
  cases rx
  obtain ⟨t, rfl⟩ := ry
  obtain ⟨its, r, pl, hz⟩ := I.tuple hq
  obtain ⟨j, h1, h2, h3, h4, h5⟩ := atI_get he
  obtain ⟨w, ew, rw'⟩ := r.get h2
  have hl := r.length
  have hn := line63
  have fin : EP X pins σ Q w s := ⟨z, H, I, rw', q⟩
  exact subscriptTail_builtinR (x := w) pl.typeIs slot_tuple_getitem.lookup
    (getItem_tuple (j := j) (Q := fun r s' => r = w ∧ EP X pins σ Q r s') pl (by omega) (by omega) (by rw [List.size_toArray, ← hl]; exact h1) (by simpa using ew) ⟨rfl, fin⟩) hs
theorem mapSeq_set (its : List Value) (n j : Nat) (u : Value) : Obj.mapSeq (·.setIfInBounds j u) { cls := .type "list", data := .seq its.toArray n } = { cls := .type "list", data := .seq (its.set j u).toArray n } := by
  simp [Obj.mapSeq]
theorem Inv.lst {pins : List (Addr × Obj)} {σ : St} {H : Hp} {s : Shared} {p : Addr} {xs : List V} (I : Inv X pins σ H s) (h : H p = some (.lst xs)) :
    ∃ (its : List Value) (n : Nat), Vals xs its ∧ s.heap.get? p = some { cls := .type "list", data := .seq its.toArray n } ∧ xs.length ≤ sizeLine := by
  obtain ⟨z, its, n, r, e⟩ := I.hok p _ h
  exact ⟨its, n, r, e, z⟩
theorem Inv.lstUpd {pins : List (Addr × Obj)} {σ : St} {H : Hp} {s : Shared} {p : Addr} {xs ys : List V} {its its' : List Value} {n n' : Nat} {f : Obj → Obj} (I : Inv X pins σ H s) (h : H p = some (.lst xs))
    (ho : s.heap.get? p = some { cls := .type "list", data := .seq its.toArray n }) (hf : f { cls := .type "list", data := .seq its.toArray n } = { cls := .type "list", data := .seq its'.toArray n' }) (r : Vals ys its') (hz : ys.length ≤ sizeLine) (t : Nat) :
    Inv X pins σ (upd H p (.lst ys)) { s with heap := s.heap.update p f, toks := t } := by
  have e : (s.heap.update p f).get? p = some { cls := .type "list", data := .seq its'.toArray n' } := by
    rw [Heap.get?_update_self f ho (by rw [hf] <;> rfl), hf]
  refine I.write (x := p) (e := p) (by rw [h]; trivial) (.inl rfl) (fun b u hb q => (Heap.get?_update_other _ _ (Ne.symm hb)).trans q) ⟨_, e⟩ ?_
  exact ⟨hz, its', n', r, e⟩
def rSetL : V → V → V → Hp → (Hp → Prop) → Prop := fun o i v H Q => ∃ p xs k j, o = .ref p ∧ i = .int k ∧ H p = some (.lst xs) ∧ ixN xs.length k = some j ∧ Q (upd H p (.lst (xs.set j v)))
theorem set_list : PSet X rSetL := by
  intro pins s σ H o i v ov iv u Q I ro ri rv h
  obtain ⟨p, xs, k, j, rfl, rfl, hp, hj, q⟩ := h
  cases ro
  obtain ⟨t, rfl⟩ := ri
  obtain ⟨its, n, r, ho, hz⟩ := I.lst hp
  obtain ⟨h1, h2, h3, h4⟩ := ixN_seq hj
  have hl := r.length
  have hn := line63
  have I' : Inv X pins σ (upd H p (.lst (xs.set j v))) { s with heap := s.heap.update p (Obj.mapSeq (·.setIfInBounds j u)) } :=
    I.lstUpd hp ho (mapSeq_set its n j u) (r.set rv j) (by rw [List.length_set]; exact hz) s.toks
  by_cases h0 : 0 ≤ k
  · have hk : k.toNat = j := by
      rw [seqIndex_of h0 h4] at h1
      exact Option.some.inj h1
    exact PySem.W.ki_setAt ho h0 (by omega) (by rw [List.size_toArray, ← hl]; exact h4) (by rw [hk]; exact ⟨_, I', q⟩)
  · have hk : (k + (its.toArray.size : Int)).toNat = j := by
      rw [seqIndex_neg (by omega) h3] at h1
      rw [List.size_toArray, ← hl]
      exact Option.some.inj h1
    exact PySem.W.ki_setBack ho (by omega) (by rw [List.size_toArray, ← hl]; exact h3) (by omega) (by rw [hk]; exact ⟨_, I', q⟩)
theorem slice_bounds (lo hi : Option Int) (n : Nat) : (sliceBounds lo hi none n).1 = ((HT.sIx n 0 lo : Nat) : Int) ∧ (sliceBounds lo hi none n).2.1 = ((HT.sIx n n hi : Nat) : Int) ∧ (sliceBounds lo hi none n).2.2 = 1 := by
  refine ⟨?_, ?_, rfl⟩
  · cases lo with
    | none => simp [sliceBounds, HT.sIx]
    | some i =>
      simp only [sliceBounds, HT.sIx, Option.getD_none, show (1 : Int) > 0 by decide, if_true]
      by_cases h : i < 0
      · simp only [h, if_true] <;> omega
      · simp only [h, if_false] <;> omega
  · cases hi with
    | none => simp [sliceBounds, HT.sIx]
    | some i =>
      simp only [sliceBounds, HT.sIx, Option.getD_none, show (1 : Int) > 0 by decide, if_true]
      by_cases h : i < 0
      · simp only [h, if_true] <;> omega
      · simp only [h, if_false] <;> omega
theorem slicePick_cut (its : List Value) (lo hi : Option Int) : slicePick its.toArray lo hi none = ((its.drop (HT.sIx its.length 0 lo)).take (HT.sIx its.length its.length hi - HT.sIx its.length 0 lo)).toArray := by
  obtain ⟨h1, h2, h3⟩ := slice_bounds lo hi its.toArray.size
  unfold slicePick
  rw [h1, h2, h3]
  simp only [sliceRange_one, pick_run, List.size_toArray] <;> rfl
def rSlL (K : PySem.W.Frag) : V → Option Int → Option Int → Hp → VK → Prop := fun x lo hi H Q => ∃ a xs, x = .ref a ∧ SqL K H a xs ∧ ∀ p, H p = none → Q (.ref p) (upd H p (.lst (cutV xs lo hi)))
theorem sl_list : SlR X (rSlL X.K) := by
  intro pins s σ H x v vl vu lo hi sl Q I rx hs pl pu h
  obtain ⟨a, xs, rfl, hx, q⟩ := h
  cases rx
  obtain ⟨its, r, ht, hz⟩ := I.list hx
  have hlen := r.length
  refine ⟨"list", _, slot_list_getitem.lookup, ht.isList.typeIs, ?_⟩
  refine wpAny_getItem_list_slice ht.isList hs pl pu .none (by simp) ?_ (by rw [List.size_toArray] <;> omega)
  rw [slicePick_cut, ← hlen]
  refine ⟨.ref s.heap.objs.size, _, I.laid (t' := s.toks) (o := .lst (cutV xs lo hi)) (fun b ob q => Heap.get?_push_of_some _ q) (Nat.le_refl _) ?_, rfl, q _ (I.hok.fresh (Nat.le_refl _))⟩
  exact ⟨Nat.le_trans (cutV_length xs lo hi) hz, _, 0, (r.drop (HT.sIx xs.length 0 lo)).take (HT.sIx xs.length xs.length hi - HT.sIx xs.length 0 lo), Heap.get?_push_size _ rfl⟩
def flatV : V → Bool
  | .non => true
  | .bl _ => true
  | .int _ => true
  | .str _ => true
  | _ => false
def eqV : V → V → Bool
  | .non, .non => true
  | .bl a, .bl b => a == b
  | .bl a, .int b => (if a then 1 else 0) == b
  | .int a, .bl b => a == (if b then 1 else 0)
  | .int a, .int b => a == b
  | .str a, .str b => a == b
  | _, _ => false
theorem eqAt_V {A : Around} {s : Shared} {y x : V} {u v : Value} (ry : RelV y u) (rx : RelV x v) (fy : flatV y = true) (fx : flatV x = true) : SeqAt.EqAt A s u v (eqV y x) := by
  cases y with
  | non =>
    cases ry
    cases x with
    | non => cases rx; exact SeqAt.EqAt.same _
    | bl b => cases rx; exact SeqAt.EqAt.none_bool b
    | int b => obtain ⟨t, rfl⟩ := rx; exact SeqAt.EqAt.none_int b t
    | str b => obtain ⟨t, rfl⟩ := rx; exact SeqAt.EqAt.none_str b t
    | _ => exact absurd (show false = true from fx) Bool.false_ne_true
  | bl a =>
    cases ry
    cases x with
    | non => cases rx; exact SeqAt.EqAt.bool_none a
    | bl b => cases rx; exact SeqAt.EqAt.bool_bool a b
    | int b => obtain ⟨t, rfl⟩ := rx; exact SeqAt.EqAt.bool_int a b t
    | str b => obtain ⟨t, rfl⟩ := rx; exact SeqAt.EqAt.bool_str a b t
    | _ => exact absurd (show false = true from fx) Bool.false_ne_true
  | int a =>
    obtain ⟨t', rfl⟩ := ry
    cases x with
    | non => cases rx; exact SeqAt.EqAt.int_none a t'
    | bl b => cases rx; exact SeqAt.EqAt.int_bool a t' b
    | int b => obtain ⟨t, rfl⟩ := rx; exact SeqAt.EqAt.int_int a t' b t
    | str b => obtain ⟨t, rfl⟩ := rx; exact SeqAt.EqAt.int_str a t' b t
    | _ => exact absurd (show false = true from fx) Bool.false_ne_true
  | str a =>
    obtain ⟨t', rfl⟩ := ry
    cases x with
    | non => cases rx; exact SeqAt.EqAt.str_none a t'
    | bl b => cases rx; exact SeqAt.EqAt.str_bool a t' b
    | int b => obtain ⟨t, rfl⟩ := rx; exact SeqAt.EqAt.str_int a t' b t
    | str b => obtain ⟨t, rfl⟩ := rx; exact SeqAt.EqAt.str_str a t' b t
    | _ => exact absurd (show false = true from fx) Bool.false_ne_true
  | _ => exact absurd (show false = true from fy) Bool.false_ne_true
def eqU (x : V) (u : Value) : Bool := match u with
  | .none => eqV .non x
  | .bool b => eqV (.bl b) x
  | .int i _ => eqV (.int i) x
  | .str z _ => eqV (.str z) x
  | _ => false
theorem eqU_of {x y : V} {u : Value} (r : RelV y u) (f : flatV y = true) : eqU x u = eqV y x := by
  cases y with
  | non => cases r; rfl
  | bl b => cases r; rfl
  | int i => obtain ⟨t, rfl⟩ := r; rfl
  | str z => obtain ⟨t, rfl⟩ := r; rfl
  | _ => exact absurd (show false = true from f) Bool.false_ne_true
theorem any_eqU {x : V} : ∀ {xs : List V} {us : List Value}, Vals xs us → xs.all flatV = true → us.any (eqU x) = xs.any fun y => eqV y x
  | _, _, .nil, _ => rfl
  | y :: xs, u :: us, .cons r t, f => by
    rw [List.all_cons, Bool.and_eq_true] at f
    rw [List.any_cons, List.any_cons, eqU_of r f.1, any_eqU t f.2]
theorem mem_eqAt {A : Around} {s : Shared} {x : V} {v : Value} (rx : RelV x v) (fx : flatV x = true) : ∀ {xs : List V} {us : List Value}, Vals xs us → xs.all flatV = true → ∀ u ∈ us, SeqAt.EqAt A s u v (eqU x u)
  | _, _, .nil, _ => fun u hu => by cases hu
  | y :: xs, u :: us, .cons r t, f => fun u' hu => by
    rw [List.all_cons, Bool.and_eq_true] at f
    rcases List.mem_cons.mp hu with rfl | hu
    · rw [eqU_of r f.1]; exact eqAt_V r rx f.1 fx
    · exact mem_eqAt rx fx t f.2 u' hu
def inV (x : V) (xs : List V) : Bool := xs.any fun y => eqV y x
def rIn (K : PySem.W.Frag) (neg : Bool) : R2 := fun x y H Q => ∃ p xs, y = .ref p ∧ (SqL K H p xs ∨ SqT K H p xs) ∧ flatV x = true ∧ xs.all flatV = true ∧ Q (.bl (if neg then !inV x xs else inV x xs)) H
theorem op_in_seq : OpR X (compareOp .In) (rIn X.K false) := by
  intro pins s σ H x y v u Q I rx ry h
  obtain ⟨p, xs, rfl, hq, fx, fs, q⟩ := h
  cases ry
  rcases hq with hq | hq
  · obtain ⟨its, r, pl, hz⟩ := I.list hq
    refine SeqAt.in_listAt (eqU x) pl.isList (fun w hw => mem_eqAt rx fx r fs w (by simpa using hw)) ⟨.bl _, H, I, rfl, ?_⟩
    rw [show its.toArray.any (eqU x) = its.any (eqU x) by simp, any_eqU r fs]
    exact q
  · obtain ⟨its, r, pl, hz⟩ := I.tuple hq
    refine SeqAt.in_tupleAt (eqU x) pl (fun w hw => mem_eqAt rx fx r fs w (by simpa using hw)) ⟨.bl _, H, I, rfl, ?_⟩
    rw [show its.toArray.any (eqU x) = its.any (eqU x) by simp, any_eqU r fs]
    exact q
theorem call_len_seq : CallR X (.builtin "len") (fun xs H Q => ∃ p ys, xs = [.ref p] ∧ (SqL X.K H p ys ∨ SqT X.K H p ys) ∧ Q (.int ys.length) H) := by
  intro pins s σ H xs us Q I r h
  obtain ⟨p, ys, rfl, hq, q⟩ := h
  obtain ⟨u, rfl, rx⟩ := vals1 r
  cases rx
  have hn := line63
  rcases hq with hq | hq
  · obtain ⟨its, r', pl, hz⟩ := I.list hq
    have hlen := r'.length
    exact Calls.call_len_list pl.isList (by simp only [List.size_toArray] <;> omega) ⟨.int ys.length, H, I.tok _, ⟨s.toks + 1, by rw [List.size_toArray, hlen]⟩, q⟩
  · obtain ⟨its, r', pl, hz⟩ := I.tuple hq
    have hlen := r'.length
    exact len_tuple pl (by simp only [List.size_toArray] <;> omega) ⟨.int ys.length, H, I.tok _, ⟨s.toks + 1, by rw [List.size_toArray, hlen]⟩, q⟩
theorem call_list_of : CallR X (.type "list") (fun xs H Q => ∃ p ys, xs = [.ref p] ∧ (SqL X.K H p ys ∨ SqT X.K H p ys) ∧ ∀ l, H l = none → Q (.ref l) (upd H l (.lst ys))) := by
  intro pins s σ H xs us Q I r h
  obtain ⟨p, ys, rfl, hq, q⟩ := h
  obtain ⟨u, rfl, rx⟩ := vals1 r
  cases rx
  have fin : ∀ (its : List Value), Vals ys its → ys.length ≤ sizeLine → ∀ (h' : Heap) (c' : Nat), (∀ b o', s.heap.get? b = some o' → h'.get? b = some o') →
      h'.get? s.heap.objs.size = some { cls := .type "list", dict := none, data := .seq its.toArray c', slots := #[] } → EP X pins σ Q (.ref s.heap.objs.size) { s with heap := h' } := fun its r' hz h' c' kp e =>
    ⟨.ref s.heap.objs.size, _, I.laid (t' := s.toks) kp (Nat.le_refl _) (show ObjOk X.prog X.w _ h' _ (.lst ys) from ⟨hz, its, c', r', e⟩), rfl, q _ (I.hok.fresh (Nat.le_refl _))⟩
  rcases hq with hq | hq
  · obtain ⟨its, r', pl, hz⟩ := I.list hq
    have hlen := r'.length
    obtain ⟨o, ho, hc, n, hd⟩ := pl.isList
    exact call_list_seq p (.inl rfl) ho hc hd (fun h' c' kp e => fin its r' hz h' c' kp e) (by simp only [List.size_toArray] <;> omega)
  · obtain ⟨its, r', pl, hz⟩ := I.tuple hq
    have hlen := r'.length
    obtain ⟨o, ho, hc, n, hd⟩ := pl
    exact call_list_seq p (.inr rfl) ho hc hd (fun h' c' kp e => fin its r' hz h' c' kp e) (by simp only [List.size_toArray] <;> omega)
def tyV (K : PySem.W.Frag) (T : String) (x : V) (H : Hp) : Prop := match x with
  | .str _ => T = "str"
  | .int _ => T = "int"
  | .ref p => (T = "list" ∧ ∃ xs, SqL K H p xs) ∨ (T = "tuple" ∧ ∃ o, K.lookup p = some o ∧ o.cls = .type "tuple" ∧ o.dict = none) ∨
      (T = "dict" ∧ ((∃ kvs, H p = some (.dK kvs)) ∨ ∃ kvs, H p = some (.dT kvs))) ∨ (T = "set" ∧ ∃ S n, H p = some (.set S n))
  | _ => False
theorem tyV_is {pins : List (Addr × Obj)} {σ : St} {H : Hp} {s : Shared} {T : String} {x : V} {v : Value} (I : Inv X pins σ H s) (r : RelV x v) (ty : tyV X.K T x H) :
    s.TypeIs v T ∧ ∀ a, v = .ref a → ∃ ob, s.heap.get? a = some ob ∧ ob.dict = none := by
  cases x with
  | str z =>
    obtain ⟨t, rfl⟩ := r
    cases (show T = "str" from ty)
    exact ⟨typeIs_str s z t, fun _ e => nomatch e⟩
  | int i =>
    obtain ⟨t, rfl⟩ := r
    cases (show T = "int" from ty)
    exact ⟨typeIs_int s i t, fun _ e => nomatch e⟩
  | ref p =>
    cases r
    rcases ty with ⟨rfl, xs, hq⟩ | ⟨rfl, o, hk, hc, hd⟩ | ⟨rfl, hk⟩ | ⟨rfl, S, n, hk⟩
    · obtain ⟨its, _, pl, _⟩ := I.list hq
      refine ⟨pl.isList.typeIs, fun a e => ?_⟩
      cases e
      obtain ⟨o, n, e, c, hd, _⟩ := pl
      exact ⟨o, e, hd⟩
    · refine ⟨⟨o, I.kIn p o hk, hc⟩, fun a e => ?_⟩
      cases e
      exact ⟨o, I.kIn _ o hk, hd⟩
    · have z : ∃ o, s.heap.get? p = some o ∧ o.ExactDict := by
        rcases hk with ⟨kvs, hk⟩ | ⟨kvs, hk⟩
        · obtain ⟨_, _, _, _, o, _, _, e, ex, _⟩ := I.hok p _ hk
          exact ⟨o, e, ex⟩
        · obtain ⟨_, _, _, _, o, _, _, e, ex, _⟩ := I.hok p _ hk
          exact ⟨o, e, ex⟩
      obtain ⟨o, e, ex⟩ := z
      refine ⟨⟨o, e, ex.1⟩, fun a e2 => ?_⟩
      cases e2
      exact ⟨o, e, ex.2.1⟩
    · obtain ⟨o, _, _, _, e, ex, _⟩ := I.hok p _ hk
      refine ⟨⟨o, e, ex.1⟩, fun a e2 => ?_⟩
      cases e2
      exact ⟨o, e, ex.2.1⟩
  | _ => exact False.elim ty
def tBM0 (K : PySem.W.Frag) (T : String) (r : V → List V → Hp → VK → Prop) (to : TE) : TE := fun σ H Q => to σ H fun x H1 => tyV K T x H1 ∧ r x [] H1 Q
def tBM (K : PySem.W.Frag) (T : String) (r : V → List V → Hp → VK → Prop) (to : TE) (t : TA) : TE := fun σ H Q => to σ H fun x H1 => tyV K T x H1 ∧ t σ H1 fun xs H2 => r x xs H2 Q
variable {o e : Expr} {es : List Expr} {to : TE} {t : TA} {name : Str} {apos cpos : Pos} {T id : String} {r : V → List V → Hp → VK → Prop}
theorem pe_bm0 (pa : PlainAttrs T) (slot : Slot T name id) (hty : typeOf (.builtin id) = pure (.type "method_descriptor")) (hm : MtR X id r) (ho : PE X o to)
    (hbase : attributeBase o name X.env (eval o X.env) = eval o X.env := by rfl) (hline : (apos.endLine == cpos.line) = true := by rfl) : PE X (.Call (.Attribute o name apos) [] [] cpos) (tBM0 X.K T r to) := by
  intro pins s σ H Q I h
  refine wpAny_Call_method0_late hbase hline (thn (ho pins s σ H _ I h) fun v s1 ⟨x, H1, I1, r1, ty, q1⟩ => ?_)
  obtain ⟨h1, h2⟩ := tyV_is I1 r1 ty
  exact ⟨T, id, pa, slot, hty, h1, h2, Calls.callWith_builtin rfl (PySem.evalArgs_none (hm pins s1 σ H1 x [] v [] Q I1 r1 .nil q1))⟩
theorem pe_bm (pa : PlainAttrs T) (slot : Slot T name id) (hty : typeOf (.builtin id) = pure (.type "method_descriptor")) (hm : MtR X id r) (ho : PE X o to) (ha : PA X (e :: es) t)
    (hbase : attributeBase o name X.env (eval o X.env) = eval o X.env := by rfl)
    (hfew : ((backTo cpos (starEach (e :: es) X.env)).all (fun x => !x.1) && (backToKw cpos (keywordEach [] X.env)).all (fun x => x.1.isSome)
      && decide ((e :: es).length + ([] : List Keyword).length + (if ([] : List Keyword).isEmpty then 0 else 1) < 30)) = true := by rfl)
    (hline : (apos.endLine == cpos.line) = true := by rfl) (hs : starEach (e :: es) X.env = (false, eval e X.env) :: starEach es X.env := by rfl) (hplain : (backTo cpos (starEach es X.env)).any (·.1) = false := by rfl) :
    PE X (.Call (.Attribute o name apos) (e :: es) [] cpos) (tBM X.K T r to t) := by
  intro pins s σ H Q I h
  refine wpAny_Call_method_late hbase hfew hline rfl (thn (ho pins s σ H _ I h) fun v s1 ⟨x, H1, I1, r1, ty, q1⟩ => ?_)
  obtain ⟨h1, h2⟩ := tyV_is I1 r1 ty
  refine ⟨T, id, pa, slot, hty, h1, h2, ?_⟩
  have hA := ha cpos pins s1 σ H1 _ I1 q1
  rw [hs] at hA ⊢
  refine Calls.callWith_builtin (by show (false || (backTo cpos (starEach es X.env)).any (·.1)) = false; rw [hplain] <;> rfl) (Calls.evalArgs_plain ?_)
  exact thn hA fun us s2 ⟨vs, H2, I2, r2, q2⟩ => hm pins s2 σ H2 x vs v us Q I2 r1 r2 q2
end
end L2
namespace L2
open PySem PySem.Spec PyProof.Rows
def MtM (X : Cx) (id : String) (r : V → List V → Hp → VK → Prop) : Prop :=
  ∀ (pins : List (Addr × Obj)) (s : Shared) (σ : St) (H : Hp) (x : V) (xs : List V) (v : Value) (us : List Value) (Q : VK), Inv X pins σ H s → RelV x v → Vals xs us → r x xs H Q →
    wpAny (model X.prog X.w) X.A (call (.builtin id) (v :: us)) (EP X pins σ Q) X.xe s
theorem Vals.one : ∀ {x : V} {us : List Value}, Vals [x] us → ∃ u, us = [u] ∧ RelV x u
  | _, _, .cons r .nil => ⟨_, rfl, r⟩
theorem Vals.zero : ∀ {us : List Value}, Vals [] us → us = []
  | _, .nil => rfl
theorem Vals.dropLast {xs : List V} {us : List Value} (h : Vals xs us) : Vals xs.dropLast us.dropLast := by
  induction h with
  | nil => exact .nil
  | cons r t ih =>
    cases t with
    | nil => exact .nil
    | cons q t' => exact .cons r ih
theorem erase_last {α : Type} (l : List α) : l.eraseIdx (l.length - 1) = l.dropLast := by
  induction l with
  | nil => rfl
  | cons a r ih =>
    cases r with
    | nil => rfl
    | cons b r =>
      have e : (a :: b :: r).length - 1 = ((b :: r).length - 1) + 1 := by
        have h1 : (a :: b :: r).length = r.length + 2 := rfl
        have h2 : (b :: r).length = r.length + 1 := rfl
        omega
      rw [e, List.eraseIdx_cons_succ, ih]
      all_goals rfl
section
variable {X : Cx} {pins : List (Addr × Obj)} {σ : St} {H : Hp} {s : Shared} {l b : Addr} {xs ys zs : List V}
theorem Inv.lset {its its' : List Value} {n : Nat} {f : Array Value → Array Value} {t' : Nat} (I : Inv X pins σ H s) (hH : H l = some (.lst xs))
    (e : s.heap.get? l = some { cls := .type "list", data := .seq its.toArray n }) (hf : f its.toArray = its'.toArray) (hv : Vals ys its') (hz : ys.length ≤ sizeLine) :
    Inv X pins σ (upd H l (.lst ys)) { s with heap := s.heap.update l (Obj.mapSeq f), toks := t' } := by
  have q := PySem.IsL.update e f
  rw [hf] at q
  refine I.write (x := l) (e := l) (by rw [hH]; exact trivial) (.inl rfl) (fun b' u hb hu => (Heap.get?_update_other s.heap (Obj.mapSeq f) (Ne.symm hb)).trans hu) ⟨_, q⟩ ?_
  exact ⟨hz, its', _, hv, q⟩
theorem Inv.lnew {its : List Value} {t' : Nat} (I : Inv X pins σ H s) (hv : Vals ys its) (hz : ys.length ≤ sizeLine) :
    Inv X pins σ (upd H s.heap.objs.size (.lst ys)) { s with heap := s.heap.push { cls := .type "list", data := .seq its.toArray }, toks := t' } :=
  I.laid (fun _ _ q => Heap.get?_push_of_some _ q) (Nat.le_refl _) ⟨hz, its, 0, hv, Heap.get?_push_size _ rfl⟩
theorem Inv.fresh (I : Inv X pins σ H s) : H s.heap.objs.size = none := I.hok.fresh (Nat.le_refl _)
theorem Inv.lstM (I : Inv X pins σ H s) (hH : H l = some (.lst xs)) : xs.length ≤ sizeLine ∧ ∃ (its : List Value) (n : Nat), Vals xs its ∧ xs.length = its.length ∧ s.heap.get? l = some { cls := .type "list", data := .seq its.toArray n } := by
  obtain ⟨z, its, n, r, e⟩ := I.hok l _ hH
  exact ⟨z, its, n, r, r.length, e⟩
end
section
variable {X : Cx}
def rAppend : V → List V → Hp → VK → Prop := fun x vs H Q => ∃ l xs y, x = .ref l ∧ vs = [y] ∧ H l = some (.lst xs) ∧ xs.length < sizeLine ∧ Q .non (upd H l (.lst (xs ++ [y])))
theorem mt_append : MtM X "list.append" rAppend := by
  intro pins s σ H x vs v us Q I rx rv h
  obtain ⟨l, xs, y, rfl, rfl, hH, hz, q⟩ := h
  cases rx
  obtain ⟨u, rfl, ru⟩ := rv.one
  obtain ⟨z, its, n, r, hl, e⟩ := I.lstM hH
  refine call_meets F.slot_list_append ⟨_, e, rfl⟩ F.entry_list_append (F.args_list_append_2 _ _) (PySem.list_append l its.toArray n u (by rw [List.size_toArray]; omega)) ⟨e, ?_⟩
  refine ⟨.non, _, I.lset (its' := its ++ [u]) hH e (by simp) (r.append (.cons ru .nil)) ?_, rfl, q⟩
  rw [List.length_append, List.length_singleton]
  omega
def rPop : V → List V → Hp → VK → Prop := fun x vs H Q => ∃ l xs y, x = .ref l ∧ vs = [] ∧ H l = some (.lst xs) ∧ xs[xs.length - 1]? = some y ∧ Q y (upd H l (.lst xs.dropLast))
theorem mt_pop : MtM X "list.pop" rPop := by
  intro pins s σ H x vs v us Q I rx rv h
  obtain ⟨l, xs, y, rfl, rfl, hH, hy, q⟩ := h
  cases rx
  have hus := rv.zero
  subst hus
  obtain ⟨z, its, n, r, hl, e⟩ := I.lstM hH
  obtain ⟨u, hu, ru⟩ := r.get hy
  have hy' : its.toArray[its.toArray.size - 1]? = some u := by
    show its.toArray[its.length - 1]? = some u
    rw [← Array.getElem?_toList, ← hl]
    exact hu
  refine call_meets F.slot_list_pop ⟨_, e, rfl⟩ F.entry_list_pop (F.args_list_pop_1 _) (MeetsSeq.list_pop_last l its.toArray n u hy' (by rw [List.size_toArray]; omega)) ⟨e, ?_⟩
  refine ⟨y, _, I.lset (its' := its.dropLast) hH e ?_ r.dropLast ?_, ru, q⟩
  · show its.toArray.eraseIdxIfInBounds (its.toArray.size - 1) = its.dropLast.toArray
    rw [List.size_toArray, List.eraseIdxIfInBounds_toArray, erase_last]
  · rw [List.length_dropLast]
    omega
def rCat : R2 := fun x y H Q => ∃ l b xs zs, x = .ref l ∧ y = .ref b ∧ H l = some (.lst xs) ∧ H b = some (.lst zs) ∧ xs.length + zs.length ≤ sizeLine ∧ ∀ p, H p = none → Q (.ref p) (upd H p (.lst (xs ++ zs)))
theorem op_cat : OpR X (binaryOp .Add) rCat := by
  intro pins s σ H x y v u Q I rx ry h
  obtain ⟨l, b, xs, zs, rfl, rfl, hH, hB, hz, q⟩ := h
  cases rx
  cases ry
  obtain ⟨z, its, n, r, hl, e⟩ := I.lstM hH
  obtain ⟨z2, its2, n2, r2, hl2, e2⟩ := I.lstM hB
  refine PySem.P.add_list e e2 ?_ (by rw [List.size_toArray, List.size_toArray]; omega)
  have ea : its.toArray ++ its2.toArray = (its ++ its2).toArray := by simp
  rw [ea]
  exact ⟨.ref _, _, I.lnew (t' := s.toks) (r.append r2) (by rw [List.length_append]; omega), rfl, q _ I.fresh⟩
end
section
variable {prog : Program} {w : World} {A : Around} {E : Value → Shared → Prop} {s : Shared}
set_option maxRecDepth 100000 in
end
section
variable {X : Cx}
end
end L2
namespace L2
open PySem PySem.Spec PyProof.Rows
section
variable {κ : Type} [DecidableEq κ]
def valV (kvs : List (κ × V)) (k : κ) : Option V := (kvs.find? fun kv => decide (kv.1 = k)).map (·.2)
def putK (kvs : List (κ × V)) (k : κ) (v : V) : List (κ × V) :=
  if (kvs.any fun kv => decide (kv.1 = k)) = true then kvs.map (fun kv => if kv.1 = k then (kv.1, v) else kv) else kvs ++ [(k, v)]
def dropK (kvs : List (κ × V)) (k : κ) : List (κ × V) := kvs.filter fun kv => decide (kv.1 ≠ k)
theorem valV_pos {p : κ × V} {r : List (κ × V)} {k : κ} (e : p.1 = k) : valV (p :: r) k = some p.2 := by simp [valV, List.find?_cons, e]
theorem valV_neg {p : κ × V} {r : List (κ × V)} {k : κ} (e : ¬ p.1 = k) : valV (p :: r) k = valV r k := by simp [valV, List.find?_cons, e]
theorem valV_any (k : κ) : ∀ kvs : List (κ × V), (kvs.any fun kv => decide (kv.1 = k)) = (valV kvs k).isSome
  | [] => rfl
  | p :: r => by
    rw [List.any_cons]
    by_cases e : p.1 = k
    · simp only [valV_pos e, decide_eq_true e, Bool.true_or, Option.isSome_some]
    · rw [valV_neg e, decide_eq_false e, Bool.false_or]; exact valV_any k r
theorem valV_map (k j : κ) (y : V) : ∀ kvs : List (κ × V), valV (kvs.map fun kv => if kv.1 = k then (kv.1, y) else kv) j = (valV kvs j).map fun x => if j = k then y else x
  | [] => rfl
  | p :: r => by
    have ih := valV_map k j y r
    rw [List.map_cons]
    by_cases h : p.1 = k
    · rw [if_pos h]
      by_cases e : p.1 = j
      · rw [valV_pos (p := (p.1, y)) e, valV_pos e, Option.map_some, if_pos (e.symm.trans h)]
      · rw [valV_neg (p := (p.1, y)) e, valV_neg e, ih]
    · rw [if_neg h]
      by_cases e : p.1 = j
      · rw [valV_pos (p := p) e, valV_pos e, Option.map_some, if_neg (fun z => h (e.trans z))]
      · rw [valV_neg (p := p) e, valV_neg e, ih]
theorem valV_snoc (k j : κ) (y : V) : ∀ kvs : List (κ × V), valV kvs k = none → valV (kvs ++ [(k, y)]) j = if j = k then some y else valV kvs j
  | [], _ => by
    by_cases e : k = j
    · rw [if_pos e.symm]; exact valV_pos (p := (k, y)) e
    · rw [if_neg (fun z => e z.symm)]; exact valV_neg (p := (k, y)) e
  | p :: r, hn => by
    rw [List.cons_append]
    have hk : ¬ p.1 = k := fun z => by rw [valV_pos z] at hn; cases hn
    rw [valV_neg hk] at hn
    have ih := valV_snoc k j y r hn
    by_cases e : p.1 = j
    · rw [valV_pos e, valV_pos e, if_neg (fun z => hk (e.trans z))]
    · rw [valV_neg e, valV_neg e, ih]
theorem valV_put (kvs : List (κ × V)) (k j : κ) (y : V) : valV (putK kvs k y) j = if j = k then some y else valV kvs j := by
  unfold putK
  by_cases a : (kvs.any fun kv => decide (kv.1 = k)) = true
  · rw [if_pos a, valV_map]
    rw [valV_any] at a
    by_cases e : j = k
    · obtain ⟨x, hx⟩ := Option.isSome_iff_exists.mp a
      rw [if_pos e, e, hx, Option.map_some, if_pos rfl]
    · rw [if_neg e]
      cases valV kvs j with
      | none => rfl
      | some x => rw [Option.map_some, if_neg e]
  · rw [if_neg a]
    refine valV_snoc k j y kvs ?_
    rw [valV_any] at a
    cases q : valV kvs k with
    | none => rfl
    | some x => rw [q] at a; exact (a rfl).elim
theorem length_putK (kvs : List (κ × V)) (k : κ) (v : V) : (putK kvs k v).length ≤ kvs.length + 1 := by
  unfold putK
  split
  · rw [List.length_map]; omega
  · rw [List.length_append, List.length_cons, List.length_nil]; omega
theorem RelO.isSome_eq {o : Option V} {u : Option Value} (r : RelO o u) : o.isSome = u.isSome := by
  cases o with
  | none => cases u with
    | none => rfl
    | some _ => exact (show False from r).elim
  | some _ => cases u with
    | none => exact (show False from r).elim
    | some _ => rfl
theorem RelO.getD {o : Option V} {u : Option Value} {d : V} {d' : Value} (r : RelO o u) (rd : RelV d d') : RelV (o.getD d) (u.getD d') := by
  cases o with
  | none => cases u with
    | none => exact rd
    | some _ => exact (show False from r).elim
  | some _ => cases u with
    | none => exact (show False from r).elim
    | some _ => exact r
theorem KV.val {kvs : List (κ × V)} {vs : List (κ × Value)} (r : KV kvs vs) (k : κ) : RelO (valV kvs k) (valueAt vs k) := by
  unfold KV at r
  induction r with
  | nil => exact True.intro
  | @cons p q ps qs h t ih =>
    obtain ⟨h1, h2⟩ := h
    by_cases e : p.1 = k
    · have e' : q.1 = k := h1.symm.trans e
      have b : valueAt (q :: qs) k = some q.2 := by simp [valueAt, List.find?_cons, e']
      rw [valV_pos e, b]; exact h2
    · have e' : ¬ q.1 = k := fun z => e (h1.trans z)
      have b : valueAt (q :: qs) k = valueAt qs k := by simp [valueAt, List.find?_cons, e']
      rw [valV_neg e, b]; exact ih
theorem KV.any {kvs : List (κ × V)} {vs : List (κ × Value)} (r : KV kvs vs) (k : κ) : (kvs.any fun kv => decide (kv.1 = k)) = vs.any fun kv => decide (kv.1 = k) := by
  unfold KV at r
  induction r with
  | nil => rfl
  | cons h t ih => rw [List.any_cons, List.any_cons, ih, h.1]
theorem KV.repl {kvs : List (κ × V)} {vs : List (κ × Value)} (r : KV kvs vs) (k : κ) {y : V} {u : Value} (ry : RelV y u) :
    KV (kvs.map fun kv => if kv.1 = k then (kv.1, y) else kv) (vs.map fun kv => if kv.1 = k then (kv.1, u) else kv) := by
  unfold KV at r ⊢
  induction r with
  | nil => exact .nil
  | @cons p q ps qs h t ih =>
    rw [List.map_cons, List.map_cons]
    refine .cons ?_ ih
    obtain ⟨h1, h2⟩ := h
    by_cases e : p.1 = k
    · rw [if_pos e, if_pos (h1.symm.trans e)]; exact ⟨h1, ry⟩
    · rw [if_neg e, if_neg (fun z => e (h1.trans z))]; exact ⟨h1, h2⟩
theorem KV.put {kvs : List (κ × V)} {vs : List (κ × Value)} (r : KV kvs vs) (k : κ) {y : V} {u : Value} (ry : RelV y u) : KV (putK kvs k y) (stored vs k u) := by
  unfold putK stored
  rw [r.any k]
  by_cases e : (vs.any fun kv => decide (kv.1 = k)) = true
  · rw [if_pos e, if_pos e]; exact r.repl k ry
  · rw [if_neg e, if_neg e]; exact Paired.snoc r ⟨rfl, ry⟩
theorem KV.drop {kvs : List (κ × V)} {vs : List (κ × Value)} (r : KV kvs vs) (k : κ) : KV (dropK kvs k) (without vs k) := by
  unfold KV at r ⊢
  unfold dropK without
  induction r with
  | nil => exact .nil
  | @cons p q ps qs h t ih =>
    obtain ⟨h1, h2⟩ := h
    rw [List.filter_cons, List.filter_cons]
    by_cases e : p.1 = k
    · have a : ¬ decide (p.1 ≠ k) = true := by simp [e]
      have b : ¬ decide (q.1 ≠ k) = true := by simp [h1.symm.trans e]
      rw [if_neg a, if_neg b]; exact ih
    · have e' : ¬ q.1 = k := fun z => e (h1.trans z)
      have a : decide (p.1 ≠ k) = true := by simp [e]
      have b : decide (q.1 ≠ k) = true := by simp [e']
      rw [if_pos a, if_pos b]; exact .cons ⟨h1, h2⟩ ih
theorem KV.length {kvs : List (κ × V)} {vs : List (κ × Value)} (r : KV kvs vs) : kvs.length = vs.length := Paired.length r
theorem dropK_le (kvs : List (κ × V)) (k : κ) : (dropK kvs k).length ≤ kvs.length := List.length_filter_le _ _
end
theorem kV_is {P : Program} {w : World} {k : Key} {u : Value} (r : RelV (kV k) u) : (mixKind P w).is k u = true := by
  cases k with
  | inl i => obtain ⟨t, e⟩ := (show ∃ t, u = Value.int i t from r); subst e; exact mixKind_int P w i t
  | inr x => obtain ⟨t, e⟩ := (show ∃ t, u = Value.str x t from r); subst e; exact mixKind_str P w x t
theorem items_are {P : Program} {w : World} : ∀ {ks : List Key} {us : List Value}, Vals (ks.map kV) us → ItemsAre (mixKind P w) ks us
  | [], _, r => by rw [List.map_nil] at r; cases r; exact .nil
  | k :: ks, _, r => by
    rw [List.map_cons] at r
    cases r with
    | cons h t => exact .cons (kV_is h) (items_are t)
abbrev KT (H : Hp) : List (List Key × V) → List (List Key × Addr × Value) → Prop := Paired fun p q => p.1 = q.1 ∧ H q.2.1 = some (.tup (p.1.map kV)) ∧ RelV p.2 q.2.2
theorem KT.val {H : Hp} {kvs : List (List Key × V)} {xs : List (List Key × Addr × Value)} (r : KT H kvs xs) (k : List Key) : RelO (valV kvs k) ((atKey xs k).map (·.2)) := by
  induction r with
  | nil => exact True.intro
  | @cons p q ps qs h t ih =>
    obtain ⟨h1, _, h2⟩ := h
    by_cases e : p.1 = k
    · have e' : q.1 = k := h1.symm.trans e
      have b : atKey (q :: qs) k = some q.2 := by simp [atKey, List.find?_cons, e']
      rw [valV_pos e, b]; exact h2
    · have e' : ¬ q.1 = k := fun z => e (h1.trans z)
      have b : atKey (q :: qs) k = atKey qs k := by simp [atKey, List.find?_cons, e']
      rw [valV_neg e, b]; exact ih
theorem KT.repl {H : Hp} {kvs : List (List Key × V)} {xs : List (List Key × Addr × Value)} (r : KT H kvs xs) (k : List Key) {y : V} {u : Value} (ry : RelV y u) :
    KT H (kvs.map fun kv => if kv.1 = k then (kv.1, y) else kv) (xs.map (putAt k u)) := by
  induction r with
  | nil => exact .nil
  | @cons p q ps qs h t ih =>
    rw [List.map_cons, List.map_cons]
    refine .cons ?_ ih
    obtain ⟨h1, h2, h3⟩ := h
    unfold putAt
    by_cases e : p.1 = k
    · rw [if_pos e, if_pos (h1.symm.trans e)]; exact ⟨h1, h2, ry⟩
    · rw [if_neg e, if_neg (fun z => e (h1.trans z))]; exact ⟨h1, h2, h3⟩
theorem KT.put {H : Hp} {kvs : List (List Key × V)} {xs : List (List Key × Addr × Value)} (r : KT H kvs xs) (k : List Key) {b : Addr} {y : V} {u : Value} (hb : H b = some (.tup (k.map kV))) (ry : RelV y u) :
    KT H (putK kvs k y) (storedH xs k b u) := by
  have e : (kvs.any fun kv => decide (kv.1 = k)) = (atKey xs k).isSome := by
    rw [valV_any, (r.val k).isSome_eq, Option.isSome_map]
  unfold putK storedH
  rw [e]
  by_cases q : (atKey xs k).isSome = true
  · rw [if_pos q, if_pos q]; exact r.repl k ry
  · rw [if_neg q, if_neg q]; exact Paired.snoc r ⟨rfl, hb, ry⟩
theorem KT.keeps {H H' : Hp} {kvs : List (List Key × V)} {xs : List (List Key × Addr × Value)} (r : KT H kvs xs) (ht : ∀ b ys, H b = some (.tup ys) → H' b = some (.tup ys)) : KT H' kvs xs :=
  Paired.mapP r fun _ _ z => ⟨z.1, ht _ _ z.2.1, z.2.2⟩
section
variable {P : Program} {w : World} {H : Hp} {h : Heap} {a : Addr}
theorem rd_of {u : HO} (ok : HOk P w H h) (e : Rd H a u) : ObjOk P w H h a u := e.ok ok
theorem dk_rd {kvs : List (Key × V)} (ok : HOk P w H h) (e : Rd H a (.dK kvs)) : kvs.length ≤ sizeLine ∧ (a == sysModules) = false ∧ ∃ vs, KV kvs vs ∧ h.DictOf (mixKind P w) a vs :=
  show ObjOk P w H h a (.dK kvs) from rd_of ok e
theorem dk_of {kvs : List (Key × V)} (ok : HOk P w H h) (e : H a = some (.dK kvs)) : kvs.length ≤ sizeLine ∧ (a == sysModules) = false ∧ ∃ vs, KV kvs vs ∧ h.DictOf (mixKind P w) a vs := dk_rd ok (.inl e)
theorem key_of {ks : List Key} (ok : HOk P w H h) (e : H a = some (.tup (ks.map kV))) : (tupleKind (mixKind P w)).is h ks a := by
  obtain ⟨_, its, r, o, h1, h2, n, h3⟩ := (show ObjOk P w H h a (.tup (ks.map kV)) from ok a _ e)
  exact ⟨o, its.toArray, n, h1, h2, h3, by simpa using items_are r⟩
theorem dt_rd {kvs : List (List Key × V)} (ok : HOk P w H h) (e : Rd H a (.dT kvs)) : kvs.length ≤ sizeLine ∧ (a == sysModules) = false ∧
    ∃ xs, KT H kvs xs ∧ h.DictOfH (tupleKind (mixKind P w)) a xs := by
  obtain ⟨z, y, xs, r, o, es, ep, h1, h2, h3, h4, h5⟩ := (show ObjOk P w H h a (.dT kvs) from rd_of ok e)
  refine ⟨z, y, xs, r, o, es, ep, h1, h2, h3, h4, fun x hx => ?_, h5⟩
  have all : ∀ {l : List (List Key × V)} {m : List (List Key × Addr × Value)}, KT H l m → ∀ x ∈ m, (tupleKind (mixKind P w)).is h x.1 x.2.1 := by
    intro l m q
    induction q with
    | nil => intro x hx; exact nomatch hx
    | @cons p q ps qs hq t ih =>
      intro x hx
      rcases List.mem_cons.mp hx with e | hx
      · subst e
        exact key_of ok (by rw [← hq.1]; exact hq.2.1)
      · exact ih x hx
  exact all r x hx
theorem dt_of {kvs : List (List Key × V)} (ok : HOk P w H h) (e : H a = some (.dT kvs)) : kvs.length ≤ sizeLine ∧ (a == sysModules) = false ∧
    ∃ xs, KT H kvs xs ∧ h.DictOfH (tupleKind (mixKind P w)) a xs := dt_rd ok (.inl e)
end
def DGet (H : Hp) (a : Addr) (y : V) (r : Option V) : Prop :=
  (∃ kvs k, Rd H a (.dK kvs) ∧ y = kV k ∧ r = valV kvs k) ∨ ∃ kvs k b, Rd H a (.dT kvs) ∧ y = .ref b ∧ H b = some (.tup (k.map kV)) ∧ r = valV kvs k
def DPut (H : Hp) (a : Addr) (y v : V) (H' : Hp) : Prop :=
  (∃ kvs k, H a = some (.dK kvs) ∧ y = kV k ∧ kvs.length < sizeLine ∧ H' = upd H a (.dK (putK kvs k v))) ∨
  ∃ kvs k b, H a = some (.dT kvs) ∧ y = .ref b ∧ H b = some (.tup (k.map kV)) ∧ kvs.length < sizeLine ∧ H' = upd H a (.dT (putK kvs k v))
theorem DGet.k {H : Hp} {a : Addr} {kvs : List (Key × V)} {k : Key} (e : H a = some (.dK kvs)) : DGet H a (kV k) (valV kvs k) := .inl ⟨kvs, k, .inl e, rfl, rfl⟩
theorem DPut.k {H : Hp} {a : Addr} {kvs : List (Key × V)} {k : Key} {v : V} (e : H a = some (.dK kvs)) (hl : kvs.length < sizeLine) : DPut H a (kV k) v (upd H a (.dK (putK kvs k v))) := .inl ⟨kvs, k, e, rfl, hl, rfl⟩
section
variable {X : Cx} {pins : List (Addr × Obj)} {σ : St} {H : Hp} {s : Shared} {a : Addr} {y v : V} {u r : Value} {o : Option V} {A : Around} {E : Value → Shared → Prop}
theorem Inv.big (I : Inv X pins σ H s) : sysModules < s.heap.objs.size := by
  have h : mainGlobals < s.heap.objs.size := (I.mod.glob.keeps I.bk).lt
  exact Nat.lt_trans (by decide) h
theorem d_getItem {Q : Value → Shared → Prop} (hu : A.units + 1 < cLine) (I : Inv X pins σ H s) (g : DGet H a y (some v)) (ry : RelV y u) (h : ∀ w' s', Inv X pins σ H s' → RelV v w' → Q w' s') :
    wpAny (model X.prog X.w) A (getItem (.ref a) u) Q E s := by
  rcases g with ⟨kvs, k, e, ey, l⟩ | ⟨kvs, k, b, e, ey, eb, l⟩
  · subst ey
    obtain ⟨z, hd, vs, rel, dd⟩ := dk_rd I.hok e
    obtain ⟨w', hw, rw'⟩ := RelO.some_of (v := v) (o := valueAt vs k) (by rw [l]; exact rel.val k)
    exact wpAny_getItem_of (kV_is ry) dd.mapOf hw (h w' _ (I.tok _) rw')
  · subst ey
    cases (show u = Value.ref b from ry)
    obtain ⟨z, hd, xs, rel, dd⟩ := dt_rd I.hok e
    obtain ⟨w', hw, rw'⟩ := RelO.some_of (v := v) (o := (atKey xs k).map (·.2)) (by rw [l]; exact rel.val k)
    obtain ⟨p, hp, hp2⟩ := Option.map_eq_some_iff.mp hw
    refine wpAny_getItem_heap (tupleKind_room_in1 hu) (key_of I.hok eb) dd hp ?_
    rw [hp2]
    exact h w' _ (I.tok _) rw'
theorem d_in {Q : Value → Shared → Prop} (hu : A.units + 1 < cLine) (I : Inv X pins σ H s) (g : DGet H a y o) (ry : RelV y u) (h : ∀ s', Inv X pins σ H s' → Q (.bool o.isSome) s') :
    wpAny (model X.prog X.w) A (compareOp .In u (.ref a)) Q E s := by
  rcases g with ⟨kvs, k, e, ey, l⟩ | ⟨kvs, k, b, e, ey, eb, l⟩
  · subst ey
    obtain ⟨z, hd, vs, rel, dd⟩ := dk_rd I.hok e
    refine wpAny_in_of (kV_is ry) hd dd.mapOf ?_
    rw [← (rel.val k).isSome_eq, ← l]
    exact h _ (I.tok _)
  · subst ey
    cases (show u = Value.ref b from ry)
    obtain ⟨z, hd, xs, rel, dd⟩ := dt_rd I.hok e
    refine wpAny_in_heap (tupleKind_room_in1 hu) (key_of I.hok eb) hd dd ?_
    have q := (rel.val k).isSome_eq
    rw [Option.isSome_map] at q
    rw [← q, ← l]
    exact h _ (I.tok _)
theorem d_notIn {Q : Value → Shared → Prop} (hu : A.units + 1 < cLine) (I : Inv X pins σ H s) (g : DGet H a y o) (ry : RelV y u) (h : ∀ s', Inv X pins σ H s' → Q (.bool (!o.isSome)) s') :
    wpAny (model X.prog X.w) A (compareOp .NotIn u (.ref a)) Q E s := by
  rcases g with ⟨kvs, k, e, ey, l⟩ | ⟨kvs, k, b, e, ey, eb, l⟩
  · subst ey
    obtain ⟨z, hd, vs, rel, dd⟩ := dk_rd I.hok e
    refine wpAny_notIn_of (kV_is ry) hd dd.mapOf ?_
    rw [← (rel.val k).isSome_eq, ← l]
    exact h _ (I.tok _)
  · subst ey
    cases (show u = Value.ref b from ry)
    obtain ⟨z, hd, xs, rel, dd⟩ := dt_rd I.hok e
    refine wpAny_notIn_heap (tupleKind_room_in1 hu) (key_of I.hok eb) hd dd ?_
    have q := (rel.val k).isSome_eq
    rw [Option.isSome_map] at q
    rw [← q, ← l]
    exact h _ (I.tok _)
theorem d_write {h' : Heap} {t' : Nat} {ob : HO} (I : Inv X pins σ H s) (mu : Mut (H a)) (hs : Heap.SameBut a s.heap h') (he : ∃ q, h'.get? a = some q) (new : ObjOk X.prog X.w (upd H a ob) h' a ob) :
    Inv X pins σ (upd H a ob) { s with heap := h', toks := t' } :=
  I.write (x := a) (e := a) mu (.inl rfl) (fun b q hb z => (hs.2 b hb).trans z) he new
theorem dk_new {P : Program} {w : World} {H' : Hp} {h' : Heap} {kvs : List (Key × V)} {vs : List (Key × Value)} (z : kvs.length ≤ sizeLine) (hd : (a == sysModules) = false) (rel : KV kvs vs) (dd : h'.DictOf (mixKind P w) a vs) :
    ObjOk P w H' h' a (.dK kvs) := ⟨z, hd, vs, rel, dd⟩
theorem d_setItem {H' : Hp} {Q : Unit → Shared → Prop} (hu : A.units + 1 < cLine) (I : Inv X pins σ H s) (g : DPut H a y v H') (ry : RelV y u) (rv : RelV v r) (h : ∀ s', Inv X pins σ H' s' → Q () s') :
    wpAny (model X.prog X.w) A (setItem (.ref a) u r) Q E s := by
  rcases g with ⟨kvs, k, e, ey, l, eH⟩ | ⟨kvs, k, b, e, ey, eb, l, eH⟩
  · subst ey eH
    obtain ⟨z, hd, vs, rel, dd⟩ := dk_of I.hok e
    have hz : vs.length ≤ sizeLine := by rw [← rel.length]; exact z
    have hl : (putK kvs k v).length ≤ sizeLine := by have := length_putK kvs k v; omega
    refine wpAny_setItem_pairs (hsz := hz) (kV_is ry) dd fun h' dd' hs => h _ ?_
    have he : ∃ q, h'.get? a = some q := let ⟨q, _, _, hq, _⟩ := dd'; ⟨q, hq⟩
    exact d_write I (by rw [e]; exact True.intro) hs he (dk_new hl hd (rel.put k rv) dd')
  · subst ey eH
    cases (show u = Value.ref b from ry)
    obtain ⟨z, hd, xs, rel, dd⟩ := dt_of I.hok e
    have hz : xs.length ≤ sizeLine := by rw [← Paired.length rel]; exact z
    have hl : (putK kvs k v).length ≤ sizeLine := by have := length_putK kvs k v; omega
    refine wpAny_setItem_heap (hsz := hz) (tupleKind_room_in1 hu) (key_of I.hok eb) dd fun h' dd' hs => h _ ?_
    obtain ⟨q, es, ep, hq, h2, h3, h4, _, h5⟩ := dd'
    refine d_write I (by rw [e]; exact True.intro) hs ⟨q, hq⟩ ⟨hl, hd, _, (rel.put k eb rv).keeps fun c ys ec => ?_, q, es, ep, hq, h2, h3, h4, h5⟩
    rw [upd_ne (ne_of ec e (fun z => nomatch z))]
    exact ec
end
section
variable {X : Cx} {pins : List (Addr × Obj)} {σ : St} {H : Hp} {s : Shared} {a : Addr} {kvs : List (Key × V)} {k : Key} {u : Value} {A : Around} {E : Value → Shared → Prop}
theorem d_pop {v : V} {more : List Value} {Q : Value → Shared → Prop} (I : Inv X pins σ H s) (e : H a = some (.dK kvs)) (ry : RelV (kV k) u) (l : valV kvs k = some v) (hm : more = [] ∨ ∃ x, more = [x])
    (h : ∀ w' s', Inv X pins σ (upd H a (.dK (dropK kvs k))) s' → RelV v w' → Q w' s') : wpAny (model X.prog X.w) A (call (.builtin "dict.pop") (.ref a :: u :: more)) Q E s := by
  obtain ⟨z, hd, vs, rel, dd⟩ := dk_of I.hok e
  obtain ⟨w', hw, rw'⟩ := RelO.some_of (v := v) (o := valueAt vs k) (by rw [← l]; exact rel.val k)
  have hp : (keyPart u).isSome = true := by
    cases k with
    | inl i => obtain ⟨t, q⟩ := (show ∃ t, u = Value.int i t from ry); subst q; rfl
    | inr x => obtain ⟨t, q⟩ := (show ∃ t, u = Value.str x t from ry); subst q; rfl
  have ha : argsOk "dict.pop" ⟨.ref a :: u :: more, []⟩ := by
    rcases hm with q | ⟨x, q⟩
    · subst q; exact PySem.F.args_dict_pop_2 _ _
    · subst q; exact PySem.F.args_dict_pop_3 _ _ _
  refine call_meetsIn PySem.F.slot_dict_pop dd.typeIs PySem.F.entry_dict_pop ha (meets_dict_pop_there (mixKind X.prog X.w) a (kV_is ry) more hm hp)
    ⟨vs, w', dd, by rw [← rel.length]; exact z, hw, fun h' dd' hs => h w' _ ?_ rw'⟩
  have he : ∃ q, h'.get? a = some q := let ⟨q, _, _, hq, _⟩ := dd'; ⟨q, hq⟩
  exact d_write I (by rw [e]; exact True.intro) hs he (dk_new (Nat.le_trans (dropK_le kvs k) z) hd (rel.drop k) dd')
theorem d_len {Q : Value → Shared → Prop} (I : Inv X pins σ H s) (e : Rd H a (.dK kvs)) (h : ∀ t s', Inv X pins σ H s' → Q (.int kvs.length t) s') : wpAny (model X.prog X.w) A (call (.builtin "len") [.ref a]) Q E s := by
  obtain ⟨z, hd, vs, rel, dd⟩ := dk_rd I.hok e
  refine call_len_dict hd dd (by rw [← rel.length]; rw [sizeLine_eq] at z; omega) ?_
  rw [← rel.length]
  exact h _ _ (I.tok _)
end
def NoSl (i : Expr) : Prop := ∀ ov iv, subscripted i false ov iv = operate [ov, iv] (getItem ov iv)
theorem subD_of {prog : Program} {w : World} {A : Around} {E : Value → Shared → Prop} {s : Shared} {env : Env} {value slice : Expr} {pos : Pos} {T id : String} {Q : Value → Shared → Prop}
    (hl : typeLookup (.type T) "__getitem__" = pure (some (.builtin id))) (hs : NoSl slice)
    (h : wpAny (model prog w) A (eval value env) (fun o s₁ => wpAny (model prog w) A (eval slice env) (fun i s₂ => s₂.TypeIs o T ∧ wpAny (model prog w) A (getItem o i) Q E s₂) E s₁) E s) :
    wpAny (model prog w) A (eval (.Subscript value slice pos) env) Q E s := by
  refine Subscript_ (wpAny_mono h (fun o s₁ h₁ => wpAny_mono h₁ (fun i s₂ h₂ => ?_) fun _ _ x => x) fun _ _ x => x)
  obtain ⟨hT, h₂⟩ := h₂
  unfold subscriptTail
  refine wpAny_bind ?_
  rw [getitemInPython_of_ne hT.not_modules]
  refine wpAny_bind (wpAny_specialOf hT hl ?_)
  have fin : wpAny (model prog w) A (subscripted slice false o i) (fun r s₃ => wpAny (model prog w) A (letTemporaryGo value o r >>= fun _ => pure r) Q E s₃) E s₂ := by
    rw [hs o i]
    exact wpAny_operating (wpAny_mono h₂ (fun r s₃ h₃ => wpAny_bind (wpAny_letTemporaryGo (wpAny_pure h₃))) fun _ _ x => x)
  first
    | exact wpAny_pure (wpAny_bind fin)
    | exact wpAny_bind (wpAny_pure (wpAny_bind fin))
    | exact wpAny_bind fin
theorem dict_typeIs {X : Cx} {pins : List (Addr × Obj)} {σ : St} {H : Hp} {s : Shared} {a : Addr} {y : V} {o : Option V} (I : Inv X pins σ H s) (g : DGet H a y o) : s.TypeIs (.ref a) "dict" := by
  rcases g with ⟨kvs, k, e, _, _⟩ | ⟨kvs, k, b, e, _, _, _⟩
  · obtain ⟨_, _, vs, _, dd⟩ := dk_rd I.hok e
    exact dd.typeIs
  · obtain ⟨_, _, xs, _, dd⟩ := dt_rd I.hok e
    exact dd.typeIs
def tDGet (td ty : TE) : TE := fun σ H Q => td σ H fun x H1 => ty σ H1 fun y H2 => ∃ a v, x = .ref a ∧ DGet H2 a y (some v) ∧ Q v H2
def tDIn (ty td : TE) : TE := fun σ H Q => ty σ H fun y H1 => td σ H1 fun x H2 => ∃ a o, x = .ref a ∧ DGet H2 a y o ∧ Q (.bl o.isSome) H2
def tDNotIn (ty td : TE) : TE := fun σ H Q => ty σ H fun y H1 => td σ H1 fun x H2 => ∃ a o, x = .ref a ∧ DGet H2 a y o ∧ Q (.bl (!o.isSome)) H2
def sDPut (td ty tv : TE) : TS := fun D σ H => tv σ H fun v H1 => td σ H1 fun x H2 => ty σ H2 fun y H3 => ∃ a H4, x = .ref a ∧ DPut H3 a y v H4 ∧ D.nx σ H4
section
variable {X : Cx} {o i e value : Expr} {pos pos' tpos : Pos} {td ty tv : TE}
theorem pe_dget (hu : X.A.units + 1 < cLine) (ho : PE X o td) (hi : PE X i ty) (hs : NoSl i) : PE X (.Subscript o i pos) (tDGet td ty) := by
  intro pins s σ H Q I h
  refine subD_of PySem.F.slot_dict_getitem.lookup hs (thn (ho pins s σ H _ I h) fun u s1 ⟨x, H1, I1, rx, q1⟩ => thn (hi pins s1 σ H1 _ I1 q1) fun iv s2 ⟨y, H2, I2, ry, a, v, ex, g, q2⟩ => ?_)
  subst ex
  obtain rfl : u = Value.ref a := rx
  exact ⟨dict_typeIs I2 g, d_getItem hu I2 g ry fun w' s3 I3 rw' => ⟨v, H2, I3, rw', q2⟩⟩
theorem pc_din (hu : X.A.units + 1 < cLine) (hi : PE X i ty) (ho : PE X o td) : PC X .In i o (tDIn ty td) := by
  intro pins s σ H Q I h
  refine thn (hi pins s σ H _ I h) fun iv s1 ⟨y, H1, I1, ry, q1⟩ => thn (ho pins s1 σ H1 _ I1 q1) fun u s2 ⟨x, H2, I2, rx, a, ov, ex, g, q2⟩ => ?_
  subst ex
  obtain rfl : u = Value.ref a := rx
  exact d_in hu I2 g ry fun s3 I3 => ⟨.bl ov.isSome, H2, I3, rfl, q2⟩
theorem pc_dnotin (hu : X.A.units + 1 < cLine) (hi : PE X i ty) (ho : PE X o td) : PC X .NotIn i o (tDNotIn ty td) := by
  intro pins s σ H Q I h
  refine thn (hi pins s σ H _ I h) fun iv s1 ⟨y, H1, I1, ry, q1⟩ => thn (ho pins s1 σ H1 _ I1 q1) fun u s2 ⟨x, H2, I2, rx, a, ov, ex, g, q2⟩ => ?_
  subst ex
  obtain rfl : u = Value.ref a := rx
  exact d_notIn hu I2 g ry fun s3 I3 => ⟨.bl (!ov.isSome), H2, I3, rfl, q2⟩
theorem ps_dput (hu : X.A.units + 1 < cLine) (ho : PE X o td) (hi : PE X i ty) (hv : PE X value tv) (hs : swapsWith value (some (.Subscript o i pos')) pos.line X.env = pure false) :
    PS X (.Assign [.Subscript o i pos'] value pos) (sDPut td ty tv) := by
  intro pins s σ H D I h
  refine wpAny_Assign_Subscript (thn (hv pins s σ H _ I h) fun r s1 ⟨v, H1, I1, rv, q1⟩ => thn (ho pins s1 σ H1 _ I1 q1) fun u s2 ⟨x, H2, I2, rx, q2⟩ => thn (hi pins s2 σ H2 _ I2 q2) fun iv s3 ⟨y, H3, I3, ry, a, H4, ex, g, q3⟩ => ?_) hs
  subst ex
  obtain rfl : u = Value.ref a := rx
  exact d_setItem hu I3 g ry rv fun s4 I4 => ⟨σ, H4, I4, q3⟩
end
theorem dk_empty {P : Program} {w : World} {H : Hp} (h : Heap) (hb : sysModules < h.objs.size) : ObjOk P w H (h.push { cls := .type "dict", data := .dict #[] }) h.objs.size (.dK []) :=
  ⟨Nat.zero_le _, beq_eq_false_iff_ne.mpr (Ne.symm (Nat.ne_of_lt hb)), [], .nil, Heap.DictOf.new h⟩
def tDNewK : TE := fun _ H Q => ∀ p, H p = none → Q (.ref p) (upd H p (.dK []))
section
variable {X : Cx} {pos : Pos}
theorem pe_dnewK : PE X (.Dict [] [] pos) tDNewK := fun pins s σ H Q I h =>
  wpAny_Dict_empty ⟨.ref s.heap.objs.size, _, I.laid (a := s.heap.objs.size) (o := .dK []) (t' := s.toks) (fun _ _ q => Heap.get?_push_of_some _ q) (Nat.le_refl _) (dk_empty s.heap I.big), rfl, h _ (I.hok.fresh (Nat.le_refl _))⟩
end
structure M1 (X : Cx) (o : Expr) (m : Str) (apos : Pos) (e : Expr) (cpos : Pos) : Prop where
  base : attributeBase o m X.env (eval o X.env) = eval o X.env
  few : ((backTo cpos (starEach [e] X.env)).all (fun x => !x.1) && (backToKw cpos (keywordEach [] X.env)).all (fun x => x.1.isSome)
    && decide (([e] : List Expr).length + ([] : List Keyword).length + (if ([] : List Keyword).isEmpty then 0 else 1) < 30)) = true
  line : (apos.endLine == cpos.line) = true
  trees : backTo cpos (starEach [e] X.env) = [(false, eval e X.env)]
structure M2 (X : Cx) (o : Expr) (m : Str) (apos : Pos) (e f : Expr) (cpos : Pos) : Prop where
  base : attributeBase o m X.env (eval o X.env) = eval o X.env
  few : ((backTo cpos (starEach [e, f] X.env)).all (fun x => !x.1) && (backToKw cpos (keywordEach [] X.env)).all (fun x => x.1.isSome)
    && decide (([e, f] : List Expr).length + ([] : List Keyword).length + (if ([] : List Keyword).isEmpty then 0 else 1) < 30)) = true
  line : (apos.endLine == cpos.line) = true
  trees : backTo cpos (starEach [e, f] X.env) = [(false, eval e X.env), (false, eval f X.env)]
def IsD (H : Hp) (a : Addr) : Prop := (∃ kvs, Rd H a (.dK kvs)) ∨ ∃ kvs, Rd H a (.dT kvs)
theorem isD_at {X : Cx} {pins : List (Addr × Obj)} {σ : St} {H : Hp} {s : Shared} {a : Addr} (I : Inv X pins σ H s) (d : IsD H a) :
    s.TypeIs (.ref a) "dict" ∧ (∀ b, Value.ref a = .ref b → ∃ ob, s.heap.get? b = some ob ∧ ob.dict = none) ∧ (a == sysModules) = false := by
  rcases d with ⟨kvs, e⟩ | ⟨kvs, e⟩
  · obtain ⟨_, hd, vs, _, dd⟩ := dk_rd I.hok e
    refine ⟨dd.typeIs, fun b q => ?_, hd⟩
    cases q
    obtain ⟨ob, _, _, h1, h2, _⟩ := dd
    exact ⟨ob, h1, h2.2.1⟩
  · obtain ⟨_, hd, xs, _, dd⟩ := dt_rd I.hok e
    refine ⟨dd.typeIs, fun b q => ?_, hd⟩
    cases q
    obtain ⟨ob, _, _, h1, h2, _⟩ := dd
    exact ⟨ob, h1, h2.2.1⟩
section
variable {X : Cx} {pins : List (Addr × Obj)} {σ : St} {H : Hp} {s : Shared} {a : Addr} {y d : V} {u r : Value} {o : Option V} {A : Around} {E : Value → Shared → Prop}
theorem d_get2 {Q : Value → Shared → Prop} (hu : A.units + 1 < cLine) (I : Inv X pins σ H s) (g : DGet H a y o) (ry : RelV y u) (rd : RelV d r) (h : ∀ w' s', Inv X pins σ H s' → RelV (o.getD d) w' → Q w' s') :
    wpAny (model X.prog X.w) A (call (.builtin "dict.get") [.ref a, u, r]) Q E s := by
  rcases g with ⟨kvs, k, e, ey, l⟩ | ⟨kvs, k, b, e, ey, eb, l⟩
  · subst ey
    obtain ⟨z, hd, vs, rel, dd⟩ := dk_rd I.hok e
    refine call_meetsIn PySem.F.slot_dict_get dd.typeIs PySem.F.entry_dict_get (PySem.F.args_dict_get_3 _ _ _) (meets_dict_get_default (mixKind X.prog X.w) a (kV_is ry) hd r) ⟨_, dd.mapOf, h _ _ (I.tok _) ?_⟩
    rw [l]
    exact (rel.val k).getD rd
  · subst ey
    cases (show u = Value.ref b from ry)
    obtain ⟨z, hd, xs, rel, dd⟩ := dt_rd I.hok e
    refine call_meetsIn PySem.F.slot_dict_get dd.typeIs PySem.F.entry_dict_get (PySem.F.args_dict_get_3 _ _ _) (meetsH_dict_get_default (tupleKind (mixKind X.prog X.w)) a b hd r) ⟨tupleKind_room_in1 hu, k, xs, key_of I.hok eb, dd, h _ _ (I.tok _) ?_⟩
    rw [l]
    exact (rel.val k).getD rd
end
def tDGet2 (td ty tx : TE) : TE := fun σ H Q => td σ H fun x H1 => ∃ a, x = .ref a ∧ IsD H1 a ∧ ty σ H1 fun y H2 => tx σ H2 fun z H3 => ∃ o, DGet H3 a y o ∧ Q (o.getD z) H3
def tDPop1 (td ty : TE) : TE := fun σ H Q => td σ H fun x H1 => ∃ a, x = .ref a ∧ IsD H1 a ∧ ty σ H1 fun y H2 => ∃ kvs k v, H2 a = some (.dK kvs) ∧ y = kV k ∧ valV kvs k = some v ∧ Q v (upd H2 a (.dK (dropK kvs k)))
section
variable {X : Cx} {o e f : Expr} {apos cpos : Pos} {td ty tx : TE}
theorem pe_dget2 (hu : X.A.units + 1 < cLine) (ho : PE X o td) (he : PE X e ty) (hf : PE X f tx) (m : M2 X o "get" apos e f cpos) : PE X (.Call (.Attribute o "get" apos) [e, f] [] cpos) (tDGet2 td ty tx) := by
  intro pins s σ H Q I h
  refine wpAny_Call_method m.base m.few m.line PySem.F.plainAttrs_dict PySem.F.slot_dict_get PySem.F.type_dict_get (thn (ho pins s σ H _ I h) fun u s1 ⟨x, H1, I1, rx, a, ex, d, q1⟩ => ?_)
  subst ex
  obtain rfl : u = Value.ref a := rx
  obtain ⟨t1, t2, _⟩ := isD_at I1 d
  refine ⟨t1, t2, ?_⟩
  rw [m.trees]
  refine Calls.callWith_builtin rfl (Calls.evalArgs_plain (Calls.spliced_cons (thn (he pins s1 σ H1 _ I1 q1) fun iv s2 ⟨y, H2, I2, ry, q2⟩ =>
    Calls.spliced_cons (thn (hf pins s2 σ H2 _ I2 q2) fun fv s3 ⟨z, H3, I3, rz, ov, g, q3⟩ => Calls.spliced_nil ?_))))
  exact d_get2 hu I3 g ry rz fun w' s4 I4 rw' => ⟨_, H3, I4, rw', q3⟩
theorem pe_dpop1 (ho : PE X o td) (he : PE X e ty) (m : M1 X o "pop" apos e cpos) : PE X (.Call (.Attribute o "pop" apos) [e] [] cpos) (tDPop1 td ty) := by
  intro pins s σ H Q I h
  refine wpAny_Call_method m.base m.few m.line PySem.F.plainAttrs_dict PySem.F.slot_dict_pop PySem.F.type_dict_pop (thn (ho pins s σ H _ I h) fun u s1 ⟨x, H1, I1, rx, a, ex, d, q1⟩ => ?_)
  subst ex
  obtain rfl : u = Value.ref a := rx
  obtain ⟨t1, t2, _⟩ := isD_at I1 d
  refine ⟨t1, t2, ?_⟩
  rw [m.trees]
  refine Calls.callWith_builtin rfl (Calls.evalArgs_plain (Calls.spliced_cons (thn (he pins s1 σ H1 _ I1 q1) fun iv s2 ⟨y, H2, I2, ry, kvs, k, v, ea, ey, l, q2⟩ => Calls.spliced_nil ?_)))
  subst ey
  exact d_pop I2 ea ry l (.inl rfl) fun w' s3 I3 rw' => ⟨v, _, I3, rw', q2⟩
end
section
variable {X : Cx} {pins : List (Addr × Obj)} {σ : St} {H : Hp} {s : Shared} {a : Addr} {kvs : List (Key × V)} {A : Around} {E : Value → Shared → Prop}
end
section
variable {X : Cx} {pins : List (Addr × Obj)} {σ : St} {H : Hp} {s : Shared} {a : Addr} {y : V} {u : Value} {A : Around} {E : Value → Shared → Prop}
end
end L2
namespace Att
open PySem PySem.W PySem.Calls PyProof.Rows
theorem ints_of_wellAll {P : Params} {h : Heap} : ∀ (ns : List Int) (vs : List Value), WellAll P h vs (ns.map WData.int) → IntsAre vs ns := by
  intro ns
  induction ns with
  | nil =>
    intro vs w
    rw [List.map_nil] at w
    cases w
    exact .nil
  | cons n ns ih =>
    intro vs w
    rw [List.map_cons] at w
    cases w with
    | cons a b =>
      cases a
      exact .cons _ _ (ih _ b)
theorem script_of {l : OpenLaw} {n : Nat} (hn : l.most = some n) {P : Params} {h : Heap} {args : List WData} {vals : List Value}
    (hpre : l.row.toRowW.claim.pre args = true) (hwl : WellAll P h vals args) :
    ∃ a vs ns, vals = [Value.ref a] ∧ args = [WData.list (ns.map WData.int)] ∧ h.get? a = some { cls := .type "list", data := .seq vs.toArray } ∧ IntsAre vs ns ∧ ns.length ≤ n := by
  have hsh : WShape.hasAll [] args [.list .int] = true := (pre_splitW hpre).1
  have hc : l.pre.holds [] { args := args } = true := (pre_splitW hpre).2
  obtain ⟨d, r, rfl, h1, h2⟩ := hasAllW_cons hsh
  obtain rfl := hasAllW_nil h2
  obtain ⟨xs, rfl, h3⟩ := hasW_list h1
  obtain ⟨ns, rfl⟩ := items_int h3
  have hlen : ns.length ≤ n := by
    unfold OpenLaw.pre at hc
    have h4 : (WTm.not (.lt (.lit (.int (n : Int))) (.len (.arg 0)))).holds [] { args := [.list (ns.map .int)] } = true := by
      have h4 := (holds_andW hc).1
      rw [hn] at h4
      exact h4
    have h5 := condW_of h4 (w_not (w_lt w_lit (w_len_list (w_arg rfl))))
    rw [List.length_map] at h5
    refine Nat.le_of_not_lt fun q => ?_
    have q' : (n : Int) < ((ns.length : Nat) : Int) := by omega
    first
      | (rw [decide_eq_true q'] at h5; exact absurd h5 (by decide))
      | (simp at h5; omega)
  cases hwl with
  | cons w1 w2 =>
    cases w2
    cases w1 with
    | list ho hall => exact ⟨_, _, ns, rfl, rfl, ho, ints_of_wellAll ns _ hall, hlen⟩
theorem post_true (l : OpenLaw) (args : List WData) : l.row.toRowW.claim.post args (.bool true) args = true :=
  postW_of (r := l.row.toRowW) (X := (true == true))
    (show WShape.has [] (.bool true) .bool = true by first | rfl | decide | simp [WShape.has, WShape.arms, WShape.armsAll])
    (show (WTm.eq .res (.lit (.bool true))).value [] { args := args, res := some (.bool true), after := args } = some (.bool (true == true)) from w_eq_bool (w_res rfl) w_lit) rfl
theorem attach_call {l : OpenLaw} {n : Nat} {q : Program} {loose : List Str} {XP : (Str → Option Value) → Heap → Prop} {YP : World → Heap → Prop} {d : DefRec}
    (hn : l.most = some n) (hdf : d.params.defaults = [])
    (call : ∀ (w : World) (s₀ s₁ : Shared) (mg mb : Str → Option Value) (fa : Addr) (o : Obj) (pm cd doc : Value) (a : Addr) (vs : List Value) (ns : List Int),
      Ground q loose [] XP w s₀ mg mb s₁.heap → YP w s₁.heap →
      s₁.heap.get? fa = some o → o.data = .func (docDef d.name d.params d.body d.scope pm cd doc) → s₁.heap.CodeRec cd d.name → mg d.name = some (.ref fa) →
      s₁.heap.get? a = some { cls := .type "list", data := .seq vs.toArray } → IntsAre vs ns → ns.length ≤ n → s₁.gens = #[] →
      codeAny (model l.prog w) callerA (.call (.ref fa) ⟨[.ref a], []⟩) (fun r s' => r = .ok (.ret (.bool true)) ∧ OldK s₁.heap s'.heap ∧ s'.os = s₁.os ∧ AllBare s'.gens) s₁) :
    WalkO q loose XP YP l.row.toRowW d [] (fun f vs => PySem.call f vs) := by
  intro w s₀ s₁ mg mb G Y fa o pm cd doc dV kV ho hd hcd hD hmg hg args vals as hpre hlay hrd hwl hlo
  obtain rfl : dV = .none := Dflts.none hD hdf
  obtain rfl : kV = .none := Dflts.noKw hD
  obtain ⟨a, vs, ns, rfl, rfl, hobj, hints, hlen⟩ := script_of hn hpre hwl
  refine enter_call (codeAny_mono (call w s₀ s₁ mg mb fa o pm cd doc a vs ns G Y ho (fd_plain hd) hcd hmg hobj hints hlen hg) fun r s' hq => ?_)
  obtain ⟨rfl, h2, h3, h4⟩ := hq
  exact ⟨.inl ⟨.bool true, .bool true, [], rfl, fun _ => rfl, .bool true, post_true l _, fun _ => ⟨List.Pairwise.nil, fun _ hm => (nomatch hm)⟩⟩, h2, h3, h4⟩
section
variable {prog : Program} {w : World} {A : Around} {E : Value → Shared → Prop} {s : Shared} {K : Frag}
end
end Att
namespace L2
open PySem PySem.Spec PyProof.Rows
theorem vals_ints : ∀ {vs : List Value} {ns : List Int}, IntsAre vs ns → Vals (ns.map V.int) vs
  | _, _, .nil => .nil
  | _, _, .cons n t h => .cons ⟨t, rfl⟩ (vals_ints h)
def Only (H : Hp) : Prop := ∀ b, H b = none ∨ ∃ o xs, H b = some (.frz o (.lst xs))
theorem law_call {P : Program} {w : World} {K : PySem.W.Frag} {mg mb : Str → Option Value} {CX : CXT} {k : Nat} {fa a : Addr} {fd : FuncData} {x : Str} {sp : Sp} {s₁ : Shared} {vs : List Value} {ns : List Int}
    (KX : K.In s₁.heap) (hns : s₁.heap.Ns mainGlobals mg) (hb : s₁.heap.Ns builtinsNs mb) (hbb : ∀ x : Str, x ≠ "__name__" → mb x = bootBuiltins x) (hlim : s₁.heap.NoLimit) (hg : s₁.gens = #[])
    (ha : s₁.heap.get? a = some { cls := .type "list", data := .seq vs.toArray }) (hi : IntsAre vs ns) (hl : ns.length ≤ sizeLine) (hr : Room k callerA)
    (F : ∀ base : Heap, K.In base → base.Ns mainGlobals mg → FnOk P w K mg base CX k fa fd [x] sp) (hbind : ∀ (s : Shared) (u : Value), BindsTo s fd ⟨[u], []⟩ [(x, u)])
    (hsp : ∀ H : Hp, Only H → SqL K H a (ns.map V.int) → sp [.ref a] H (fun v _ => v = .bl true) fun _ _ _ => False)
    (hCX : ∀ H e s', CX [] H s₁ (fun _ _ _ => False) e s' → False) :
    codeAny (model P w) callerA (.call (.ref fa) ⟨[.ref a], []⟩) (fun r s' => r = .ok (.ret (.bool true)) ∧ OldK s₁.heap s'.heap ∧ s'.os = s₁.os ∧ AllBare s'.gens) s₁ := by
  have rv := vals_ints hi
  have lenV := hi.length
  have core : ∀ H : Hp, Only H → SqL K H a (ns.map V.int) → HOk P w H s₁.heap → (∀ b, H b ≠ none → b = a) → (H a ≠ none → K.lookup a = none) →
      codeAny (model P w) callerA (.call (.ref fa) ⟨[.ref a], []⟩) (fun r s' => r = .ok (.ret (.bool true)) ∧ OldK s₁.heap s'.heap ∧ s'.os = s₁.os ∧ AllBare s'.gens) s₁ := by
    intro H hO hS hok hA hK
    have base_of : ∀ {b : Addr} {o : Obj}, s₁.heap.get? b = some o → H b = none → (hidT s₁.heap H).get? b = some o := fun e n => hidT_get e n
    have noA : ∀ {b : Addr} {o : Obj} {es : Array DictEntry} {ep : Nat}, s₁.heap.get? b = some o → o.data = .dict es ep → H b = none := fun {b o es ep} e d => by
      cases q : H b with
      | none => rfl
      | some u =>
        have e' : b = a := hA b (by rw [q]; simp)
        subst e'
        rw [ha] at e; cases e
        have d' : Data.seq vs.toArray _ = Data.dict es ep := d
        cases d'
    have nsK : ∀ {b : Addr} {m : Str → Option Value}, s₁.heap.Ns b m → (hidT s₁.heap H).Ns b m := fun {b m} ⟨o, es, ep, e, d, r⟩ => ⟨o, es, ep, base_of e (noA e d), d, r⟩
    have hKb : K.In (hidT s₁.heap H) := fun b o e => base_of (KX b o e) (by
      cases q : H b with
      | none => rfl
      | some u =>
        have e' : b = a := hA b (by rw [q]; simp)
        subst e'
        rw [hK (by rw [q]; simp)] at e; cases e)
    have hM : Mod K mg (hidT s₁.heap H) := ⟨hKb, nsK hns, ⟨mb, nsK hb, hbb⟩, let ⟨mc, h1, h2⟩ := hlim; ⟨mc, nsK h1, h2⟩⟩
    have e0 : Env0 P w K mg (hidT s₁.heap H) callerA [] s₁ H := ⟨rfl, hM, fun b o e => of_hidT e, Nat.le_of_eq (hidT_size _ _), trivial, fun b hb => absurd (show b ∈ ([] : List Addr) from hb) (by simp), hok, .of_eq hg⟩
    refine codeAny_mono ((F _ hKb (nsK hns)).run callerA [] s₁ H ⟨[.ref a], []⟩ [.ref a] [.ref a] _ _ hr e0 (hbind s₁ (.ref a)) (.cons rfl .nil) (hsp H hO hS)) fun r s' h => ?_
    cases r with
    | error e => exact (hCX H e s' h).elim
    | ok fl =>
      cases fl with
      | next => exact False.elim h
      | brk => exact False.elim h
      | cont => exact False.elim h
      | ret u =>
        obtain ⟨v, H', os, bare, un, hok', r', q⟩ := h
        have q' : v = .bl true := q
        subst q'
        obtain rfl : u = Value.bool true := r'
        refine ⟨rfl, OldK.of_keep fun b o e => ?_, os, bare⟩
        cases q : H b with
        | none => exact un.keep b o e q (by intro z; exact absurd (show b ∈ ([] : List Addr) from z) (by simp)) (by simp)
        | some u =>
          rcases hO b with z | ⟨ob, xs, z⟩
          · rw [q] at z; cases z
          · have z2 := un.frzs b ob _ z
            obtain ⟨e1, _⟩ := hok b _ z
            obtain ⟨e2, _⟩ := hok' b _ z2
            rw [e] at e1; cases e1
            exact e2
  cases hk : K.lookup a with
  | some o =>
    have e := KX a o hk
    rw [ha] at e
    cases e
    refine core (fun _ => none) (fun _ => .inl rfl) (.inr ⟨_, vs.toArray, _, hk, rfl, rfl, rfl, by rw [List.size_toArray, lenV]; exact hl, by simpa using rv⟩) (fun b u z => by have z' : (none : Option HO) = some u := z; cases z') (fun b z => absurd rfl z) fun z => absurd rfl z
  | none =>
    refine core (fun b => if b = a then some (.frz { cls := .type "list", data := .seq vs.toArray } (.lst (ns.map V.int))) else none) (fun b => ?_) (.inl (.inr ⟨{ cls := .type "list", data := .seq vs.toArray }, if_pos rfl⟩)) (fun b u z => ?_) (fun b z => ?_) fun _ => hk
    · by_cases hb : b = a
      · exact .inr ⟨_, _, if_pos hb⟩
      · exact .inl (if_neg hb)
    · by_cases hb : b = a
      · have z' := (if_pos hb).symm.trans z
        cases z'
        subst hb
        exact ⟨ha, by rw [List.length_map]; exact hl, vs, _, rv, ha⟩
      · have z' := (if_neg hb).symm.trans z
        cases z'
    · by_cases hb : b = a
      · exact hb
      · exact absurd (if_neg hb) z
end L2
namespace L2
open PySem PySem.Spec PyProof.Rows
end L2
namespace L2
open PySem PySem.Spec PyProof.Rows
def inClass (s : Stmt) (j : Nat) : Stmt := match s with
  | .ClassDef _ _ _ body _ _ _ _ _ _ _ => body.getD j (.Pass ⟨0, 0, 0, 0⟩)
  | _ => .Pass ⟨0, 0, 0, 0⟩
def defArgs (s : Stmt) : Arguments := match s with
  | .FunctionDef _ a _ _ _ _ _ _ _ _ => a
  | _ => { posonlyargs := [], args := [], vararg := none, kwonlyargs := [], kw_defaults := [], kwarg := none, defaults := [] }
def defBody (s : Stmt) : List Stmt := match s with
  | .FunctionDef _ _ b _ _ _ _ _ _ _ => b
  | _ => []
def defScope (s : Stmt) : Scope := match s with
  | .FunctionDef _ _ _ _ _ _ sc _ _ _ => sc
  | _ => { kind := .function, names := [], isGenerator := false, isCoroutine := false }
abbrev CX0 : CXT := fun _ _ _ _ _ _ => False
abbrev E0 : XK := fun _ _ _ => False
theorem pass0 {X : Cx} : Passes CX0 X E0 := fun _ _ _ _ _ _ _ h => h.elim
structure Fun (K : PySem.W.Frag) (x qual : Str) (st : Stmt) (f : Addr) (fd : FuncData) : Prop where
  ex : ∃ (oc : Value) (od : Option Addr) (kV doc pm : Value) (an : Option Addr) (cdv ct : Value) (osl : Array (Option Value)),
    fd = PySem.W.fnOf x qual (defArgs st) (defBody st) (defScope st) .none kV doc pm an cdv ct ∧ K.lookup f = some ⟨oc, od, .func fd, osl⟩ ∧ PySem.W.codeIn K cdv qual = true
  kp : PySem.W.keepIn K (.ref f) = true
section
variable {P : Program} {w : World} {K : PySem.W.Frag} {mg : Str → Option Value} {base : Heap}
theorem Fun.ok {x qual : Str} {st : Stmt} {f : Addr} {fd : FuncData} {N ps : List Str} {k : Nat} {sp : Sp} (F : Fun K x qual st f fd) (S : FnScope N ps (defScope st)) (len : ∀ vs H Q E, sp vs H Q E → vs.length = ps.length)
    (hbody : ∀ (cdv : Value) (A : Around) (outer : List Env) (s : Shared) (H : Hp) (vs : List V) (Q : VK) (E : XK), Room k (A.deeper (envOfC qual (defScope st) s.heap.objs.size f cdv)) → sp vs H Q E →
      ∃ t, PSs (cxOf CX0 P w K mg base N qual (defScope st) f cdv A outer s H E).nox (defBody st) t ∧ t { nx := fun _ H' => Q .non H', rt := Q } (start N vs) H) : FnOk P w K mg base CX0 (k + 1) f fd ps sp := by
  obtain ⟨oc, od, kV, doc, pm, an, cdv, ct, osl, rfl, lk, hcd⟩ := F.ex
  refine fn_of lk hcd S len fun A outer s H vs Q E hr hsp => ?_
  obtain ⟨t, h, q⟩ := hbody cdv A outer s H vs Q E hr hsp
  exact ⟨t, h.nox, q⟩
theorem Fun.binds {x qual : Str} {st : Stmt} {f : Addr} {fd : FuncData} {ps : List Str} (F : Fun K x qual st f fd)
    (h : ∀ (kV doc pm : Value) (an : Option Addr) (cdv ct : Value) (us : List Value), us.length = ps.length → bindArgs (PySem.W.fnOf x qual (defArgs st) (defBody st) (defScope st) .none kV doc pm an cdv ct) ⟨us, []⟩ = pure (ps.zip us)) : Binds K fd ps [] := by
  obtain ⟨oc, od, kV, doc, pm, an, cdv, ct, osl, rfl, lk, hcd⟩ := F.ex
  exact .all (h kV doc pm an cdv ct)
theorem fun_mk {x qual : Str} {st : Stmt} {f : Addr} {oc : Value} {od an : Option Addr} {osl : Array (Option Value)} {kV doc pm cdv ct : Value} (l : K.lookup f = some ⟨oc, od, .func (PySem.W.fnOf x qual (defArgs st) (defBody st) (defScope st) .none kV doc pm an cdv ct), osl⟩)
    (c : PySem.W.codeIn K cdv qual = true) (k : PySem.W.keepIn K (.ref f) = true) : Fun K x qual st f (PySem.W.fnOf x qual (defArgs st) (defBody st) (defScope st) .none kV doc pm an cdv ct) := ⟨⟨oc, od, kV, doc, pm, an, cdv, ct, osl, rfl, l, c⟩, k⟩
end
theorem hu_of {A : Around} {k : Nat} (hr : Room k A) : A.units + 1 < cLine := Nat.lt_of_le_of_lt (Nat.add_le_add_left (by decide : 1 ≤ 64) _) hr.units
section
variable {X : Cx}
theorem pv (i : Nat) {x : Str} {pos : Pos} (hN : X.N[i]? = some x := by rfl) (hv : Vis X.env.scope x := by first | exact Or.inl rfl | exact Or.inr (Or.inl rfl) | exact Or.inr (Or.inr rfl)) (hd : (x == ("__debug__" : Str)) = false := by decide)
    (hcd : (x == ("__classdict__" : Str)) = false := by decide) : PE X (.Name x pos) (tVar i) := pe_var hN hv hd hcd
end
def Same (H H' : Hp) : Prop := ∀ b o, H b = some o → H' b = some o
theorem Same.refl (H : Hp) : Same H H := fun _ _ h => h
theorem Same.trans {H H1 H2 : Hp} (a : Same H H1) (b : Same H1 H2) : Same H H2 := fun c o h => b c o (a c o h)
theorem Same.free {H H' : Hp} (e : Same H H') {l : Addr} (h : H' l = Option.none) : H l = Option.none := by
  cases q : H l with
  | none => rfl
  | some o =>
    rw [e l o q] at h
    cases h
theorem Same.seq {K : PySem.W.Frag} {H H' : Hp} {a : Addr} {xs : List V} (e : Same H H') (h : SqL K H a xs) : SqL K H' a xs := by
  rcases h with (h | ⟨o, h⟩) | h
  · exact .inl (.inl (e _ _ h))
  · exact .inl (.inr ⟨o, e _ _ h⟩)
  · exact .inr h
end L2
namespace L2
open PySem PySem.Spec PyProof.Rows
section
variable {X : Cx}
theorem call_lenD : CallR X (.builtin "len") (fun xs H Q => ∃ a kvs, xs = [V.ref a] ∧ H a = some (.dK kvs) ∧ Q (.int kvs.length) H) := by
  intro pins s σ H xs us Q I r h
  obtain ⟨a, kvs, rfl, ha, q⟩ := h
  obtain ⟨u, rfl, ru⟩ := vals1 r
  cases ru
  exact d_len I (.inl ha) fun t s' I' => ⟨.int kvs.length, H, I', ⟨t, rfl⟩, q⟩
end
section
variable {κ : Type} [DecidableEq κ]
theorem valV_in {kvs : List (κ × V)} {k : κ} {v : V} (h : valV kvs k = some v) : k ∈ kvs.map (·.1) := by
  have q : (kvs.any fun kv => decide (kv.1 = k)) = true := by
    rw [valV_any, h]
    all_goals rfl
  obtain ⟨p, hp, e⟩ := List.any_eq_true.mp q
  exact List.mem_map.mpr ⟨p, hp, of_decide_eq_true e⟩
theorem nd_snoc : ∀ {l : List κ} {k : κ}, l.Nodup → ¬ k ∈ l → (l ++ [k]).Nodup
  | [], k, _, _ => by simp
  | a :: r, k, h, hk => by
    obtain ⟨h1, h2⟩ := List.nodup_cons.mp h
    show (a :: (r ++ [k])).Nodup
    refine List.nodup_cons.mpr ⟨fun m => ?_, nd_snoc h2 fun m => hk (List.mem_cons.mpr (Or.inr m))⟩
    rcases List.mem_append.mp m with q | q
    · exact h1 q
    · exact hk (List.mem_cons.mpr (Or.inl (List.mem_singleton.mp q).symm))
theorem dropK_pos {p : κ × V} {r : List (κ × V)} {k : κ} (e : p.1 = k) : dropK (p :: r) k = dropK r k := by
  unfold dropK
  rw [List.filter_cons, if_neg (by simp [e])]
theorem dropK_neg {p : κ × V} {r : List (κ × V)} {k : κ} (e : ¬ p.1 = k) : dropK (p :: r) k = p :: dropK r k := by
  unfold dropK
  rw [List.filter_cons, if_pos (by simp [e])]
end
end L2
set_option Elab.async false
set_option linter.all false
set_option maxRecDepth 100000
namespace L2
open PySem PySem.Spec PyProof.Rows
theorem bo_abs : bootBuiltins "abs" = some (.builtin "abs") := by decide +kernel
theorem bo_len : bootBuiltins "len" = some (.builtin "len") := by decide +kernel
theorem bo_isinstance : bootBuiltins "isinstance" = some (.builtin "isinstance") := by decide +kernel
theorem bo_max : bootBuiltins "max" = some (.builtin "max") := by decide +kernel
theorem bo_min : bootBuiltins "min" = some (.builtin "min") := by decide +kernel
theorem bo_int : bootBuiltins "int" = some (.type "int") := by decide +kernel
theorem bo_bool : bootBuiltins "bool" = some (.type "bool") := by decide +kernel
theorem bo_tuple : bootBuiltins "tuple" = some (.type "tuple") := by decide +kernel
theorem bo_list : bootBuiltins "list" = some (.type "list") := by decide +kernel
theorem bo_str : bootBuiltins "str" = some (.type "str") := by decide +kernel
def Sm (i : Int) : Prop := i.natAbs < 2 ^ 4000
theorem Sm.of {i : Int} {n : Nat} (h : i.natAbs ≤ n) (hn : n < 2 ^ 4000) : Sm i := Nat.lt_of_le_of_lt h hn
theorem Sm.bits {i : Int} (h : Sm i) : Builtin.Int.intBits i ≤ 2 ^ 20 := by
  unfold Builtin.Int.intBits
  split
  · exact Nat.zero_le _
  · have hn : i.natAbs < 2 ^ 4000 := h
    have : i.natAbs.log2 < 4000 := by
      rcases Nat.eq_zero_or_pos i.natAbs with h0 | hp
      · rw [h0]; decide
      · exact (Nat.log2_lt (Nat.ne_of_gt hp)).mpr hn
    have h20 : (4000 : Nat) ≤ 2 ^ 20 := by decide
    omega
theorem Sm.log {i : Int} (h : Sm i) : i.natAbs.log2 < 9000 := by
  have hn : i.natAbs < 2 ^ 4000 := h
  rcases Nat.eq_zero_or_pos i.natAbs with h0 | hp
  · rw [h0]; decide
  · exact Nat.lt_trans ((Nat.log2_lt (Nat.ne_of_gt hp)).mpr hn) (by decide)
section
variable {X : Cx}
theorem op_mulS : OpR X (binaryOp .Mult) (rI (fun i j => Sm i ∧ Sm j) fun i j => .int (i * j)) := opI fun _ _ _ _ _ _ _ hc q => mul_int q (.of_bits hc.1.bits hc.2.bits)
theorem op_fdivS : OpR X (binaryOp .FloorDiv) (rI (fun _ j => j ≠ 0 ∧ Sm j) fun i j => .int (i.fdiv j)) := opI fun _ _ _ _ _ _ _ hc q => floordiv_int hc.1 q (.inl (PyProof.noPylong_of_log2 hc.2.log))
theorem op_fdivP : OpR X (binaryOp .FloorDiv) (rI (fun _ j => 0 < j ∧ Sm j) fun i j => .int (i / j)) := opI fun i j _ _ _ _ _ hc q => by
  have h1 : (0 : Int) < j := hc.1
  exact floordiv_int (by omega) (by rw [Int.fdiv_eq_ediv_of_nonneg i (by omega)]; exact q) (.inl (PyProof.noPylong_of_log2 hc.2.log))
theorem call_isinst : CallR X (.builtin "isinstance") (fun xs H Q => ∃ x n t b, xs = [x, .ty n] ∧ TyOf X.K H x t ∧ PySem.W.kitOne X.K t (.type n) = some b ∧ Q (.bl b) H) := by
  intro pins s σ H xs us Q I r h
  obtain ⟨x, n, t, b, rfl, ty, e, q⟩ := h
  obtain ⟨u, w', rfl, r1, r2⟩ := vals2 r
  cases (show w' = Value.type n from r2)
  exact isinst_ok I r1 ty e fun tk => ⟨.bl b, H, I.tok tk, rfl, q⟩
end
structure D (K : PySem.W.Frag) (mg : Str → Option Value) (x : Str) (st : Stmt) (ps : List Str) (f : Addr) (fd : FuncData) : Prop where
  F : Fun K x x st f fd
  m : mg x = some (.ref f)
  b : Binds K fd ps []
end L2
namespace L2
open PySem PySem.Spec PyProof.Rows
section
variable {X : Cx} {st : Stmt} {rest : List Stmt} {t u : TS}
theorem tSeq_gen {t u : TS} {D : Ends} {σ : St} {H : Hp} (h : ∀ M : St → Hp → Prop, (∀ σ' H', u D σ' H' → M σ' H') → t { D with nx := M } σ H) : tSeq t u D σ H := h _ fun _ _ z => z
def tCut (t u : TS) : TS := fun D σ H => ∃ M : St → Hp → Prop, t { D with nx := M } σ H ∧ ∀ σ' H', M σ' H' → u D σ' H'
theorem pss_cut (h1 : PS X st t) (h2 : PSs X rest u) : PSs X (st :: rest) (tCut t u) := by
  intro pins s σ H D I h
  obtain ⟨M, h, hM⟩ := h
  refine wpAny_execs_cons (thn (h1 pins s σ H _ I h) fun f s1 q => ?_)
  cases f with
  | next =>
    obtain ⟨σ', H', I', q⟩ := q
    exact h2 pins s1 σ' H' D I' (hM σ' H' q)
  | ret v => exact q
  | brk => exact q
  | cont => exact q
end
end L2
namespace L2
open PySem PySem.Spec PyProof.Rows
theorem cxK {CX : CXT} {P : Program} {w : World} {K : PySem.W.Frag} {mg : Str → Option Value} {base : Heap} {N : List Str} {qual : Str} {scope : Scope} {f : Addr} {cd : Value} {A : Around} {outer : List Env} {s : Shared} {H : Hp} {E : XK} :
  (cxOf CX P w K mg base N qual scope f cd A outer s H E).K = K := rfl
end L2
namespace L2
theorem nabs10 : Int.natAbs 10 = 10 := rfl
theorem nabs2 : Int.natAbs 2 = 2 := rfl
end L2
namespace L2
theorem same_upd {H : Hp} {p : PySem.Addr} {o : HO} (hp : H p = none) : Same H (upd H p o) := fun b u e => by
  rw [upd_ne (ne_of_none e hp)]; exact e
theorem Same.tup {K : PySem.W.Frag} {H H' : Hp} {a : PySem.Addr} {xs : List V} (e : Same H H') (h : SqT K H a xs) : SqT K H' a xs := by
  rcases h with (h | ⟨o, h⟩) | h
  · exact .inl (.inl (e _ _ h))
  · exact .inl (.inr ⟨o, e _ _ h⟩)
  · exact .inr h
end L2
namespace L2
open PySem PySem.Spec PyProof.Rows
section
variable {X : Cx} {es : List Expr} {t : TA} {pos : Pos}
def tTupS (t : TA) : TE := fun σ H Q => t σ H fun xs H1 => xs.length ≤ sizeLine ∧ ∀ p H', H1 p = none → Same H1 H' → H' p = some (.tup xs) → Q (.ref p) H'
def tLstS (t : TA) : TE := fun σ H Q => t σ H fun xs H1 => xs.length ≤ sizeLine ∧ ∀ p H', H1 p = none → Same H1 H' → H' p = some (.lst xs) → Q (.ref p) H'
theorem pe_tupS {x1} (h : PA X es t) : PE X (.Tuple es x1 pos) (tTupS t) := by
  intro pins s σ H Q I hq
  refine wpAny_Tuple_spliced (thn (h pos pins s σ H _ I hq) fun us s1 ⟨xs, H1, I1, r, z, q⟩ => ⟨by rw [← r.length]; exact z, ?_⟩)
  have hf : H1 s1.heap.objs.size = none := I1.hok.fresh (Nat.le_refl _)
  refine ⟨.ref s1.heap.objs.size, upd H1 s1.heap.objs.size (.tup xs), I1.laid (t' := s1.toks) (fun b u e => Heap.get?_push_of_some _ e) (Nat.le_refl _) ?_, rfl, q _ _ hf (same_upd hf) upd_same⟩
  exact ⟨z, us, r, ⟨_, Heap.get?_push_size _ rfl, rfl, _, rfl⟩⟩
theorem pe_lstS (h : PA X es t) : PE X (.List es pos) (tLstS t) := by
  intro pins s σ H Q I hq
  refine wpAny_List_spliced (thn (h pos pins s σ H _ I hq) fun us s1 ⟨xs, H1, I1, r, z, q⟩ => ⟨by rw [← r.length]; exact z, ?_⟩)
  have hf : H1 s1.heap.objs.size = none := I1.hok.fresh (Nat.le_refl _)
  refine ⟨.ref s1.heap.objs.size, upd H1 s1.heap.objs.size (.lst xs), I1.laid (t' := s1.toks) (fun b u e => Heap.get?_push_of_some _ e) (Nat.le_refl _) ?_, rfl, q _ _ hf (same_upd hf) upd_same⟩
  exact ⟨z, us, 0, r, Heap.get?_push_size _ rfl⟩
end
end L2
namespace L2
theorem Same.get {H H' : Hp} (s : Same H H') {b : PySem.Addr} {o : HO} (h : H b = some o) : H' b = some o := s b o h
end L2
namespace L2
theorem exAnd {α : Sort _} {p q : α → Prop} (w : α) (h1 : p w) (h2 : q w) : ∃ x, p x ∧ q x := ⟨w, h1, h2⟩
theorem exOrL {α : Sort _} {p p' q : α → Prop} (w : α) (h1 : p w) (h2 : q w) : ∃ x, (p x ∨ p' x) ∧ q x := ⟨w, .inl h1, h2⟩
theorem exOrR {α : Sort _} {p p' q : α → Prop} (w : α) (h1 : p' w) (h2 : q w) : ∃ x, (p x ∨ p' x) ∧ q x := ⟨w, .inr h1, h2⟩
end L2
namespace L2
open PySem PySem.Spec PyProof.Rows
section
variable {X : Cx}
theorem OpR.weak {f : Value → Value → Sem Value} {r r' : R2} (h : OpR X f r) (m : ∀ x y H Q, r' x y H Q → r x y H Q) : OpR X f r' :=
  fun pins s σ H x y v u Q I rx ry q => h pins s σ H x y v u Q I rx ry (m x y H Q q)
theorem CallR.weak {f : Value} {r r' : List V → Hp → VK → Prop} (h : CallR X f r) (m : ∀ xs H Q, r' xs H Q → r xs H Q) : CallR X f r' :=
  fun pins s σ H xs us Q I rx q => h pins s σ H xs us Q I rx (m xs H Q q)
def rCatS : R2 := fun x y H Q => ∃ l b, x = .ref l ∧ y = .ref b ∧ ∃ xs, H l = some (.lst xs) ∧ ∃ zs, H b = some (.lst zs) ∧ xs.length + zs.length ≤ sizeLine ∧ ∀ p H', H p = none → Same H H' → H' p = some (.lst (xs ++ zs)) → Q (.ref p) H'
theorem op_catS : OpR X (binaryOp .Add) rCatS := op_cat.weak fun _ _ _ _ ⟨l, b, e1, e2, xs, h1, zs, h2, h3, q⟩ => ⟨l, b, xs, zs, e1, e2, h1, h2, h3, fun p hp => q p _ hp (same_upd hp) upd_same⟩
def rTupleL (K : PySem.W.Frag) : List V → Hp → VK → Prop := fun xs H Q => ∃ p, xs = [.ref p] ∧ ∃ ys, SqL K H p ys ∧ ∀ l H', H l = none → Same H H' → H' l = some (.tup ys) → Q (.ref l) H'
def rListOf (K : PySem.W.Frag) : List V → Hp → VK → Prop := fun xs H Q => ∃ p, xs = [.ref p] ∧ ∃ ys, (SqL K H p ys ∨ SqT K H p ys) ∧ ∀ l H', H l = none → Same H H' → H' l = some (.lst ys) → Q (.ref l) H'
theorem call_listS : CallR X (.type "list") (rListOf X.K) := call_list_of.weak fun _ _ _ ⟨p, e, ys, h, q⟩ => ⟨p, ys, e, h, fun l hl => q l _ hl (same_upd hl) upd_same⟩
end
def Md (i : Int) : Prop := i.natAbs ≤ 10 ^ 60
theorem Md.sm {i : Int} (h : Md i) : Sm i := Sm.of h (by decide +kernel)
theorem Md.mul {i j : Int} (h : Md i) (g : Md j) : (i * j).natAbs ≤ 10 ^ 120 := by
  rw [Int.natAbs_mul]; exact Nat.le_trans (Nat.mul_le_mul h g) (by decide +kernel)
theorem Md.mulS {i j : Int} (h : Md i) (g : Md j) : Sm (i * j) := Sm.of (h.mul g) (by decide +kernel)
end L2
namespace L2
theorem iteNeg {c A B : Prop} [Decidable c] (hc : ¬ c) (h : B) : if c then A else B := by rw [if_neg hc]; exact h
theorem itePos {c A B : Prop} [Decidable c] (hc : c) (h : A) : if c then A else B := by rw [if_pos hc]; exact h
theorem ckSame {H H' : Hp} (h : Same H H') : True := trivial
end L2
namespace L2
open PySem PySem.Spec PyProof.Rows
section
variable {X : Cx}
theorem call_intB : CallR X (.type "int") (fun xs H Q => ∃ k, xs = [.bl k] ∧ Q (.int (if k = true then 1 else 0)) H) := call_int1.weak fun _ _ _ ⟨k, e, q⟩ => .inr ⟨k, e, by cases k <;> exact q⟩
end
theorem abs_mul_le {a b : Int} {m n : Nat} (ha : a.natAbs ≤ m) (hb : b.natAbs ≤ n) : (a * b).natAbs ≤ m * n := by
  rw [Int.natAbs_mul]; exact Nat.mul_le_mul ha hb
theorem atL2 {x y e : Int} (h0 : 0 ≤ e) (h1 : e < 2) : ∃ v : Int, atI [V.int x, V.int y] e = some (V.int v) ∧ (v = x ∨ v = y) := by
  rcases (by omega : e = 0 ∨ e = 1) with rfl | rfl
  · exact ⟨x, rfl, .inl rfl⟩
  · exact ⟨y, rfl, .inr rfl⟩
theorem atL4 {x y z t e : Int} (h0 : 0 ≤ e) (h1 : e < 4) : ∃ v : Int, atI [V.int x, V.int y, V.int z, V.int t] e = some (V.int v) ∧ (v = x ∨ v = y ∨ v = z ∨ v = t) := by
  rcases (by omega : e = 0 ∨ e = 1 ∨ e = 2 ∨ e = 3) with rfl | rfl | rfl | rfl
  · exact ⟨x, rfl, .inl rfl⟩
  · exact ⟨y, rfl, .inr (.inl rfl)⟩
  · exact ⟨z, rfl, .inr (.inr (.inl rfl))⟩
  · exact ⟨t, rfl, .inr (.inr (.inr rfl))⟩
end L2
set_option Elab.async false
set_option linter.all false
set_option maxRecDepth 100000
set_option maxHeartbeats 4000000
namespace L2
open PySem PySem.Spec PyProof.Rows
section
variable {prog : Program} {w : World} {A : Around} {R : Result → Shared → Prop} {s : Shared}
theorem compLoop_go {elt target iter : Expr} {ifs : List Expr} {scope : Scope} {pos : Pos} {it acc : Value} {env : Env} (I : Nat → Shared → Prop) {N : Value → Shared → Prop} (hN : N = notedBy (model prog w) A env fun e s' => R (.error e) s')
    (turn : ∀ n s, I n s → wpAny (model prog w) A (pyNext it) (fun r s₁ => match r with
      | none => R (.ok .next) s₁
      | some v => wpAny (model prog w) A (letOwnedTupleGo target it v) (fun _ s₁' => wpAny (model prog w) A (assign target env v) (fun _ s₂ =>
          wpAny (model prog w) A (forIn ifs true fun c r => if r = true then do let ok ← isTrue c env (eval c env); pure (ForInStep.yield ok) else pure (ForInStep.yield r)) (fun ok s₃ =>
            if ok = true then wpAny (model prog w) A (eval elt env) (fun x s₄ => wpAny (model prog w) A (call (.builtin "list.append") [acc, x]) (fun _ s₅ => ∃ m, m < n ∧ I m s₅) N s₄) N s₃
            else ∃ m, m < n ∧ I m s₃) N s₂) N s₁') N s₁) N s)
    (n : Nat) (h : I n s) : codeAny (model prog w) A (.compLoop (.ListComp elt [⟨target, iter, ifs, 0⟩] scope pos) 0 it acc env) R s := by
  subst hN
  refine codeAny_loop rfl I (fun n s hI => ?_) n h
  show wpAny _ A ((compTurn (.ListComp elt [⟨target, iter, ifs, 0⟩] scope pos) 0 it acc env).onRaise (fun x => do noteFrame x env; theTreesLotGoes x)) _ _ s
  refine wpAny_noted ?_
  rw [compTurn_list]
  refine wpAny_bind (wpAny_standAt (wpAny_bind (wpAny_mono (turn n s hI) (fun r s₁ h₁ => ?_) fun _ _ h' => h')))
  cases r with
  | none => exact wpAny_pure h₁
  | some v =>
    refine wpAny_bind (wpAny_mono h₁ (fun _ s₁' h₁' => ?_) fun _ _ h' => h')
    refine wpAny_bind (wpAny_mono h₁' (fun _ s₂ h₂ => wpAny_bind (wpAny_mono h₂ (fun ok s₃ h₃ => ?_) fun _ _ h' => h')) fun _ _ h' => h')
    cases ok with
    | false => exact wpAny_pure ⟨rfl, h₃⟩
    | true =>
      exact wpAny_bind (wpAny_bind (wpAny_mono h₃ (fun x s₄ h₄ => wpAny_bind (wpAny_mono h₄ (fun _ s₅ h₅ => wpAny_pure (wpAny_pure ⟨rfl, h₅⟩)) fun _ _ h' => h')) fun _ _ h' => h'))
end
def compCx (X : Cx) (sc : Scope) (cl : List (Str × Addr)) (N : List Str) (C : Addr) (s : Shared) (H : Hp) (ex : List Addr) : Cx :=
  { X with N := N, s₀ := s, H₀ := H, env := compEnvC sc cl C X.env, outer := X.stack, stack := X.stack, ex := ex, fn := fun _ => false, pn := [], xe := fun _ _ => False }
def capCl (X : Cx) (caps : List Str) : List (Str × Addr) := caps.map fun n => (n, (X.env.cells.lookup n).getD 0)
def capσ (σ : St) (ix : List Nat) : St := ix.map fun i => (σ[i]?).join
structure CompSt (X : Cx) (sc : Scope) (x : Str) (caps : List Str) (ix : List Nat) : Prop where
  kind : sc.kind = .function
  nocell : ∀ y ∈ sc.names, y.2 ≠ .cell
  names : ∀ y ∈ sc.names, y.2 = .local → sc.names.lookup y.1 = some .local
  free : ∀ y ∈ sc.names, y.2 = .free → y.1 ∈ caps
  hx : sc.names.lookup x = some .local
  nd : (x :: caps).Nodup
  clos : closureFor sc X.env = pure (capCl X caps)
  cap : caps.map X.env.kindOf = caps.map fun _ => some NameKind.cell
  rl : (caps.map fun n => (relabel sc X.env).names.lookup n) = caps.map fun _ => some NameKind.cell
  slots : (ix.map fun i => X.N[i]?) = caps.map some
theorem map_at {α β : Type} {f g : α → β} {l : List α} (h : l.map f = l.map g) {a : α} (ha : a ∈ l) : f a = g a := by
  induction l with
  | nil => exact absurd ha (by simp)
  | cons b r ih =>
    rw [List.map_cons, List.map_cons, List.cons.injEq] at h
    rcases List.mem_cons.mp ha with rfl | ha
    · exact h.1
    · exact ih h.2 ha
theorem lookup_capCl {X : Cx} : ∀ {caps : List Str} {n : Str} {c : Addr}, (capCl X caps).lookup n = some c → n ∈ caps ∧ c = (X.env.cells.lookup n).getD 0
  | [], _, _, h => by simp [capCl] at h
  | a :: r, n, c, h => by
    have h : List.lookup n ((a, (X.env.cells.lookup a).getD 0) :: capCl X r) = some c := h
    rw [List.lookup_cons] at h
    cases e : n == a with
    | true =>
      rw [e] at h
      have e' : n = a := by simpa using e
      subst e'
      exact ⟨List.mem_cons_self, (Option.some.inj h).symm⟩
    | false =>
      rw [e] at h
      obtain ⟨h1, h2⟩ := lookup_capCl h
      exact ⟨List.mem_cons_of_mem _ h1, h2⟩
theorem capCl_has {X : Cx} : ∀ {caps : List Str} {n : Str}, n ∈ caps → ∃ c, (capCl X caps).lookup n = some c
  | [], _, h => absurd h (by simp)
  | a :: r, n, h => by
    show ∃ c, List.lookup n ((a, (X.env.cells.lookup a).getD 0) :: capCl X r) = some c
    rw [List.lookup_cons]
    cases e : n == a with
    | true => exact ⟨_, rfl⟩
    | false =>
      have ne : n ≠ a := by simpa using e
      exact capCl_has ((List.mem_cons.mp h).resolve_left ne)
section
variable {X : Cx} {pins : List (Addr × Obj)} {σ : St} {H : Hp} {s : Shared} {sc : Scope} {x : Str} {caps : List Str} {ix : List Nat}
theorem CompSt.cell {n : Str} {c : Addr} (S : CompSt X sc x caps ix) (ok : X.Ok) (h : (capCl X caps).lookup n = some c) : n ∈ caps ∧ X.env.cells.lookup n = some c := by
  obtain ⟨h1, h2⟩ := lookup_capCl h
  obtain ⟨c', e⟩ := ok.has n (.inl (map_at S.cap h1))
  refine ⟨h1, ?_⟩
  rw [h2, e]; rfl
theorem CompSt.isCap (S : CompSt X sc x caps ix) {y : Str} (h : (relabel sc X.env).names.lookup y = some .cell ∨ (relabel sc X.env).names.lookup y = some .free) : y ∈ caps := by
  have key : ∀ k, (relabel sc X.env).names.lookup y = some k → k = .cell ∨ k = .free → y ∈ caps := fun k hk hk2 => by
    have hm := PySem.mem_of_lookup hk
    obtain ⟨⟨n, k'⟩, hn, e⟩ := List.mem_map.mp (show (y, k) ∈ sc.names.map _ from hm)
    dsimp only at e
    split at e
    · rename_i hc
      have hk' : k' = .free := by
        simp only [Bool.and_eq_true, beq_iff_eq] at hc
        exact hc.1.1
      injection e with e1 e2
      subst e1
      exact S.free _ hn hk'
    · injection e with e1 e2
      subst e1 e2
      rcases hk2 with rfl | rfl
      · exact absurd rfl (S.nocell _ hn)
      · exact S.free _ hn rfl
  rcases h with h | h
  · exact key _ h (.inl rfl)
  · exact key _ h (.inr rfl)
theorem CompSt.ok (S : CompSt X sc x caps ix) (I : Inv X pins σ H s) {fp : List Addr} {C : Addr} (hC : s.heap.objs.size ≤ C) (hf : ∀ b ∈ fp, FpOk X pins H b) (hb : ∀ b ∈ fp, b < s.heap.objs.size) :
    (compCx X sc (capCl X caps) (x :: caps) C s H fp).Ok where
  mod := I.ok.mod
  kind := S.kind
  glob := I.ok.glob
  blt := I.ok.blt
  above := hC
  inj := fun y z c h1 h2 => I.ok.inj y z c (S.cell I.ok h1).2 (S.cell I.ok h2).2
  has := fun y hy => capCl_has (S.isCap hy)
  cab := fun _ _ h => absurd h (by intro z; cases z)
  hd := I.ok.hd
  frames := I.ok.frames
  stk := .inl rfl
  exf := fun b hbf => ⟨Nat.ne_of_lt (Nat.lt_of_lt_of_le (hb b hbf) hC), fun y c h => (hf b hbf).2.2.2.2.1 y c (S.cell I.ok h).2⟩
  bs := I.bs
  bsz := Nat.le_trans I.ok.bsz I.sz
  noex := fun b o e hbf => by
    rcases (hf b hbf).2.2.2.1 with z | z
    · exact I.ok.noex b o e z
    · exact absurd (Nat.lt_of_lt_of_le (Heap.lt_size (I.ok.bs b o e).1) z) (Nat.lt_irrefl _)
  exfs := fun b hbf hm => by
    rcases List.mem_cons.mp (I.stkSub b hm) with z | z
    · exact (hf b hbf).2.1 z
    · exact (hf b hbf).2.2.1 z
  funs := I.stack
  frf := I.stkFree
theorem capσ_len (S : CompSt X sc x caps ix) : (capσ σ ix).length = caps.length := by
  have := congrArg List.length S.slots
  simpa [capσ] using this
theorem slot_at : ∀ {ix : List Nat} {caps : List Str} {N : List Str} {k : Nat} {n : Str}, (ix.map fun i => N[i]?) = caps.map some → caps[k]? = some n → ∃ i, ix[k]? = some i ∧ N[i]? = some n
  | [], [], _, _, _, _, h => by simp at h
  | [], _ :: _, _, _, _, h, _ => by simp at h
  | _ :: _, [], _, _, _, h, _ => by simp at h
  | i :: ix, a :: caps, N, 0, n, h, e => by
    rw [List.map_cons, List.map_cons, List.cons.injEq] at h
    simp at e; subst e
    exact ⟨i, rfl, h.1⟩
  | i :: ix, a :: caps, N, k + 1, n, h, e => by
    rw [List.map_cons, List.map_cons, List.cons.injEq] at h
    obtain ⟨j, h1, h2⟩ := slot_at (k := k) h.2 (by simpa using e)
    exact ⟨j, by simpa using h1, h2⟩
theorem CompSt.start (S : CompSt X sc x caps ix) (I : Inv X pins σ H s) {fp : List Addr} {C D : Addr} {h' : Heap} {m : Str → Option Value} {tk : Nat} (hf : ∀ b ∈ fp, FpOk X pins H b) (hb : ∀ b ∈ fp, b < s.heap.objs.size)
    (hD : s.heap.objs.size ≤ D) (hC : s.heap.objs.size ≤ C) (hDC : D ≠ C) (k : ∀ b o, s.heap.get? b = some o → h'.get? b = some o) (hd : h'.get? D = some { cls := .type "list", data := .seq #[] 0 }) (hn : h'.Ns C m) :
    Inv (compCx X sc (capCl X caps) (x :: caps) C s H fp) [] (none :: capσ σ ix) (upd H D (.lst [])) { s with heap := h', toks := tk } where
  ok := S.ok I hC hf hb
  os := rfl
  bare := I.bare
  base := Un.laid k hD (I.hok.fresh hD)
  loc := by
    refine ⟨m, hn, fun i y v h1 h2 _ => ?_⟩
    cases i with
    | zero => simp at h2
    | succ i =>
      have h1 : caps[i]? = some y := by simpa [compCx] using h1
      have h2 : (capσ σ ix)[i]? = some (some v) := by simpa using h2
      obtain ⟨j, e1, e2⟩ := slot_at S.slots h1
      have h3 : σ[j]? = some (some v) := by
        unfold capσ at h2
        rw [List.getElem?_map, e1] at h2
        have h2 : (σ[j]?).join = some v := by simpa using h2
        cases q : σ[j]? with
        | none => rw [q] at h2; cases h2
        | some o => rw [q] at h2; cases o with
          | none => cases h2
          | some u => cases h2; rfl
      have hy : y ∈ caps := List.mem_of_getElem? h1
      obtain ⟨m0, hn0, hl0⟩ := I.loc
      obtain ⟨u, r, l⟩ := hl0 j y v e2 h3 (.inr (.inl (map_at S.cap hy)))
      refine ⟨u, r, .inr ⟨.inl (map_at S.rl hy), ?_⟩⟩
      rcases l with ⟨z, _⟩ | ⟨_, c, hc, hcell⟩
      · have z2 : X.env.kindOf y = some .cell := map_at S.cap hy
        rw [z] at z2; cases z2
      · obtain ⟨c', hc'⟩ := capCl_has (X := X) hy
        have := (S.cell I.ok hc').2
        rw [hc] at this; cases this
        obtain ⟨o, ho, hdt⟩ := hcell
        exact ⟨c, hc', o, k _ _ ho, hdt⟩
  cell := fun y c h => by
    obtain ⟨v, o, ho, hdt⟩ := I.cell y c (S.cell I.ok h).2
    exact ⟨v, o, k _ _ ho, hdt⟩
  free := by
    show upd H D (.lst []) C = none
    rw [upd_ne (Ne.symm hDC)]; exact I.hok.fresh hC
  freeC := fun y c h => by
    have h2 := (S.cell I.ok h).2
    obtain ⟨v, o, ho, _⟩ := I.cell y c h2
    rw [upd_ne (Nat.ne_of_lt (Nat.lt_of_lt_of_le (Heap.lt_size ho) hD))]
    exact I.freeC y c h2
  pin := fun p hp => absurd (show p ∈ ([] : List (Addr × Obj)) from hp) (by simp)
  hok := I.hok.laid k hD ⟨Nat.zero_le _, [], 0, .nil, hd⟩
  len := by
    show (none :: capσ σ ix).length = (x :: caps).length
    rw [List.length_cons, List.length_cons, capσ_len S]
theorem CompSt.back (S : CompSt X sc x caps ix) (I : Inv X pins σ H s) {fp : List Addr} {C : Addr} {ps : List (Addr × Obj)} {σ' : St} {H' : Hp} {s' : Shared} {h'' : Heap} (hf : ∀ b ∈ fp, FpOk X pins H b) (hC : s.heap.objs.size ≤ C)
    (I' : Inv (compCx X sc (capCl X caps) (x :: caps) C s H fp) ps σ' H' s') (hs : Heap.SameBut C s'.heap h'') : Inv X pins σ H' { s' with heap := h'' } := by
  have J : Inv X pins σ H' s' := I.call' (ch := fp) I'.os I'.base I'.hok I'.bare fun b hb => ⟨(hf b hb).2.2.2.1, (hf b hb).2.1, (hf b hb).2.2.2.2.1, (hf b hb).2.2.2.2.2⟩
  refine J.turned (t' := s'.toks) (it := C) (fun b o hb e => (hs.2 b hb).trans e) I'.free ?_ (.inr (Nat.le_trans I.sz hC)) (fun y c h z => ?_) fun p hp z => ?_
  · exact Nat.ne_of_gt (Nat.lt_of_lt_of_le I.lt hC)
  · obtain ⟨v, o, ho, _⟩ := I.cell y c h
    exact absurd (Nat.lt_of_lt_of_le (Heap.lt_size ho) (z ▸ hC)) (Nat.lt_irrefl _)
  · obtain ⟨e, _⟩ := I.pin p hp
    exact absurd (Nat.lt_of_lt_of_le (Heap.lt_size e) (z ▸ hC)) (Nat.lt_irrefl _)
end
def PTs (X : Cx) (ifs : List Expr) (tc : TT) : Prop :=
  ∀ (pins : List (Addr × Obj)) (s : Shared) (σ : St) (H : Hp) (Q : Bool → Hp → Prop), Inv X pins σ H s → tc σ H Q →
    wpAny (model X.prog X.w) X.A (forIn ifs true fun c r => if r = true then do let ok ← isTrue c X.env (eval c X.env); pure (ForInStep.yield ok) else pure (ForInStep.yield r)) (TP X pins σ Q) X.xe s
def tYes : TT := fun _ H Q => Q true H
theorem pts_nil {X : Cx} : PTs X [] tYes := fun _ _ _ H _ I h => wpAny_tests_nil ⟨H, I, h⟩
theorem pts_one {X : Cx} {c : Expr} {t : TT} (h : PT X c t) : PTs X [c] t := fun pins s σ H Q I q => wpAny_tests_one (h pins s σ H Q I q)
def cLoop (te : TE) (tc : TT) (caps : St) (J : It) (D : Addr) (H1 : Hp) (Q : Hp → Prop) : Prop :=
  ∃ W : Nat → Nat → List V → Hp → Prop, (∃ m, W 0 m [] (upd H1 D (.lst []))) ∧ ∀ i m ys H, W i m ys H →
    (J.stop i H ∧ Q H) ∨ (J.go i H ∧ ∀ v H', J.yld i H v H' → tc (some v :: caps) H' fun b H2 =>
      if b = true then te (some v :: caps) H2 fun y H3 => H3 D = some (.lst ys) ∧ ys.length < sizeLine ∧ ∃ m', m' < m ∧ W (i + 1) m' (ys ++ [y]) (upd H3 D (.lst (ys ++ [y])))
      else ∃ m', m' < m ∧ W (i + 1) m' ys H2)
def tComp (wi : TI) (te : TE) (tc : TT) (ix : List Nat) : TE := fun σ H Q => wi σ H fun J H1 => ∀ D, H1 D = none → cLoop te tc (capσ σ ix) J D H1 fun H' => Q (.ref D) H'
theorem noted_of {M : Model} {A : Around} {α : Type} {t : Sem α} {Q : α → Shared → Prop} {E : Value → Shared → Prop} {s : Shared} (h : wpAny M A t Q (fun _ _ => False) s) : wpAny M A t Q E s := wpAny_mono h (fun _ _ q => q) fun _ _ z => z.elim
section
variable {X : Cx} {pins : List (Addr × Obj)} {σ : St} {H : Hp} {s : Shared} {sc : Scope} {x : Str} {caps : List Str} {ix : List Nat}
theorem comp_block {elt iter : Expr} {px pos : Pos} {ifs : List Expr} {te : TE} {tc : TT} {J : It} {fp : List Addr} {it : Addr} {tn : Nat → Heap → Prop} {QH : Addr → Hp → Prop} {RR : Value → Addr → Result → Shared → Prop} {E : Value → Shared → Prop}
    (hc : X.calm = true) (S : CompSt X sc x caps ix) (he : ∀ C s H ex, PE (compCx X sc (capCl X caps) (x :: caps) C s H ex) elt te) (ht : ∀ C s H ex, PTs (compCx X sc (capCl X caps) (x :: caps) C s H ex) ifs tc)
    (I : Inv X pins σ H s) (T : Turn X.prog X.w X.K (.Name x px) J fp it tn) (st : tn 0 s.heap) (hf : ∀ b ∈ fp, FpOk X pins H b) (h : ∀ D, H D = none → cLoop te tc (capσ σ ix) J D H (QH D))
    (hRR : ∀ D C (ps : List (Addr × Obj)) σ' H' s', s.heap.objs.size ≤ C → Inv (compCx X sc (capCl X caps) (x :: caps) C s H fp) ps σ' H' s' → QH D H' → RR (.ref D) C (.ok .next) s') :
    wpAny (model X.prog X.w) X.A (newList []) (fun acc s₃ => wpAny (model X.prog X.w) X.A (newFunctionEnv sc X.env.globals (capCl X caps) [] X.env.qual none .none (some X.env)) (fun cenv s₄ =>
      codeAny (model X.prog X.w) X.A (.compStart (.ListComp elt [⟨.Name x px, iter, ifs, 0⟩] sc pos) 0 (.ref it) acc { cenv with scope := relabel sc X.env }) (RR acc cenv.locals) s₄) E s₃) E s := by
  refine wpAny_newObj_type (wpAny_newFunctionEnv S.nocell (by intro y hy; simp at hy) (fun h₁ hns₁ hsb₁ => ?_) S.kind)
  dsimp only at hns₁ hsb₁ ⊢
  generalize hH2 : s.heap.push { cls := .type "list", dict := none, data := .seq ([] : List Value).toArray } = H2 at hns₁ hsb₁ ⊢
  have hC : H2.objs.size = s.heap.objs.size + 1 := by rw [← hH2, Heap.size_push]
  have hDC : s.heap.objs.size ≠ H2.objs.size := by rw [hC]; exact Nat.ne_of_lt (Nat.lt_succ_self _)
  have hCle : s.heap.objs.size ≤ H2.objs.size := by rw [hC]; exact Nat.le_succ _
  have below : ∀ b, b < s.heap.objs.size → b ≠ H2.objs.size := fun b hb => by rw [hC]; exact Nat.ne_of_lt (Nat.lt_succ_of_lt hb)
  have old : ∀ b o, s.heap.get? b = some o → h₁.get? b = some o := fun b o e => hsb₁.extBut b o (below b (Heap.lt_size e)) (Heap.get?_push_of_some _ (hH2 ▸ Heap.get?_push_of_some _ e))
  have hacc : h₁.get? s.heap.objs.size = some { cls := .type "list", data := .seq #[] 0 } := hsb₁.extBut _ _ hDC (Heap.get?_push_of_some _ (hH2 ▸ Heap.get?_push_size _ rfl))
  have hb : ∀ b ∈ fp, b < s.heap.objs.size := fun b hbf => by obtain ⟨o, e, _⟩ := T.obj _ _ st b hbf; exact Heap.lt_size e
  have I1 := S.start (tk := s.toks + ([] : List (Str × Value)).length) I hf hb (Nat.le_refl _) hCle hDC old hacc hns₁
  obtain ⟨W, ⟨m0, w0⟩, turn⟩ := h _ (I.hok.fresh (Nat.le_refl _))
  have stat : ∀ {H' : Hp}, (∀ b ∈ fp, H' b = none) → ∀ b ∈ fp, FpOk (compCx X sc (capCl X caps) (x :: caps) H2.objs.size s H fp) [] H' b := fun {H'} hn b hbf =>
    ⟨hn b hbf, (I1.ok.exf b hbf).1, I1.ok.exfs b hbf, .inl hbf, (I1.ok.exf b hbf).2, fun p hp => absurd (show p ∈ ([] : List (Addr × Obj)) from hp) (by simp)⟩
  have st1 : tn 0 h₁ := T.keep _ _ _ st fun b hbf o e => old b o e
  have fr1 : ∀ b ∈ fp, upd H s.heap.objs.size (.lst []) b = none := fun b hbf => by
    rw [upd_ne (Nat.ne_of_lt (hb b hbf))]; exact (hf b hbf).1
  have loop : ∀ s₃ : Shared, s₃ = { s with heap := h₁, toks := s.toks + ([] : List (Str × Value)).length } →
      codeAny (model X.prog X.w) X.A (.compLoop (.ListComp elt [⟨.Name x px, iter, ifs, 0⟩] sc pos) 0 (.ref it) (.ref s.heap.objs.size) (compEnvC sc (capCl X caps) H2.objs.size X.env))
        (RR (.ref s.heap.objs.size) H2.objs.size) s₃ := by
    rintro s₃ rfl
    refine compLoop_go (fun n s' => ∃ i ys H' ov, Inv (compCx X sc (capCl X caps) (x :: caps) H2.objs.size s H fp) [] (ov :: capσ σ ix) H' s' ∧ tn i s'.heap ∧ (∀ b ∈ fp, H' b = none) ∧ W i n ys H') rfl ?_ m0 ⟨0, [], _, none, I1, st1, fr1, w0⟩
    rintro n s3 ⟨i, ys, H3, ov, I3, st3, fr3, w3⟩
    rcases turn i n ys H3 w3 with ⟨stop, q⟩ | ⟨go, step⟩
    · refine noted_of (thn (T.done (compCx X sc (capCl X caps) (x :: caps) H2.objs.size s H fp) rfl rfl rfl hc i [] s3 _ H3 _ I3 (stat fr3) st3 stop) fun r s4 ⟨hr, I4⟩ => ?_)
      subst hr
      exact hRR _ _ _ _ _ _ hCle I4 q
    · refine noted_of (thn (T.item (compCx X sc (capCl X caps) (x :: caps) H2.objs.size s H fp) rfl rfl rfl hc i [] s3 _ H3 _ I3 (stat fr3) st3 go) fun r s4 ⟨u, hr, h4⟩ => ?_)
      subst hr
      refine noted_of (thn h4 fun _ s5 ⟨v, H5, I5, r5, y5, st5, fr5⟩ => ?_)
      have I5' := I5.pinned (stat fr5) (T.obj _ _ st5)
      have hg : PG (compCx X sc (capCl X caps) (x :: caps) H2.objs.size s H fp) (.Name x px) (gName 0) := pg_name (i := 0) S.nd rfl (.inl (lookup_relabel_local S.hx)) (.inr (lookup_relabel_local S.hx))
      have again : ∀ {s7 : Shared} {H7 : Hp} {ys' : List V}, Inv (compCx X sc (capCl X caps) (x :: caps) H2.objs.size s H fp) ([] ++ pinsAt fp s5.heap) (some v :: capσ σ ix) H7 s7 → (∃ m', m' < n ∧ W (i + 1) m' ys' H7) →
          ∃ m, m < n ∧ ∃ i ys H' ov, Inv (compCx X sc (capCl X caps) (x :: caps) H2.objs.size s H fp) [] (ov :: capσ σ ix) H' s7 ∧ tn i s7.heap ∧ (∀ b ∈ fp, H' b = none) ∧ W i m ys H' := fun {s7 H7 ys'} I7 ⟨m', hm, w7⟩ => by
        refine ⟨m', hm, i + 1, ys', H7, some v, I7.unpinned, T.keep _ _ _ st5 fun b hb o e => (I7.pin (b, o) (List.mem_append_right _ (List.mem_append_right _ (mem_pinsAt hb e)))).1, fun b hb => ?_, w7⟩
        obtain ⟨o, e, d⟩ := T.obj _ _ st5 b hb
        exact (I7.pin (b, o) (List.mem_append_right _ (List.mem_append_right _ (mem_pinsAt hb e)))).2.1
      refine noted_of (thn (hg _ s5 _ H5 v u (fun σ' H' => σ' = some v :: capσ σ ix ∧ H' = H5) I5' r5 ⟨rfl, rfl⟩) fun _ s6 ⟨σ6, H6, I6, e6, e6'⟩ => ?_)
      subst e6 e6'
      refine noted_of (thn (ht _ _ _ _ _ s6 _ H6 _ I6 (step v H6 y5)) fun ok s7 ⟨H7, I7, q7⟩ => ?_)
      cases ok with
      | false => exact again I7 (by simpa using q7)
      | true =>
        rw [if_pos rfl] at q7
        rw [if_pos rfl]
        refine noted_of (thn (he _ _ _ _ _ s7 _ H7 _ I7 q7) fun yv s8 ⟨y, H8, I8, r8, hD8, hz8, q8⟩ => ?_)
        refine noted_of (thn (mt_append _ s8 _ H8 (.ref s.heap.objs.size) [y] _ [yv] (fun _ H9 => H9 = upd H8 s.heap.objs.size (.lst (ys ++ [y]))) I8 rfl (.cons r8 .nil) ⟨_, _, _, rfl, rfl, hD8, hz8, rfl⟩) fun _ s9 ⟨_, H9, I9, _, e9⟩ => ?_)
        subst e9
        exact again I9 q8
  exact codeAny_compStart_list (loop _ rfl) (T.self _ 0 _ _ _ st1 (loop _ rfl))
theorem turnC (I : Inv X pins σ H s) {C : Addr} (hC : s.heap.objs.size ≤ C) {σ2 : St} {H' : Hp} {s'' : Shared} {h'' : Heap} (J : Inv X pins σ2 H' s'') (hn : H' C = none) (hs : Heap.SameBut C s''.heap h'') : Inv X pins σ2 H' { s'' with heap := h'' } := by
  refine J.turned (t' := s''.toks) (it := C) (fun b o hb e => (hs.2 b hb).trans e) hn ?_ (.inr (Nat.le_trans I.sz hC)) (fun y c h z => ?_) fun p hp z => ?_
  · exact Nat.ne_of_gt (Nat.lt_of_lt_of_le I.lt hC)
  · obtain ⟨v, o, ho, _⟩ := I.cell y c h
    exact absurd (Nat.lt_of_lt_of_le (Heap.lt_size ho) (z ▸ hC)) (Nat.lt_irrefl _)
  · obtain ⟨e, _⟩ := I.pin p hp
    exact absurd (Nat.lt_of_lt_of_le (Heap.lt_size e) (z ▸ hC)) (Nat.lt_irrefl _)
theorem pe_comp {elt iter : Expr} {px pos : Pos} {ifs : List Expr} {wi : TI} {te : TE} {tc : TT} (hc : X.calm = true) (S : CompSt X sc x caps ix) (hi : PI X (.Name x px) iter wi)
    (he : ∀ C s H ex, PE (compCx X sc (capCl X caps) (x :: caps) C s H ex) elt te) (ht : ∀ C s H ex, PTs (compCx X sc (capCl X caps) (x :: caps) C s H ex) ifs tc)
    (hs : ∀ x, foldedSetIterable iter X.env x = pure x := by intro _; rfl) : PE X (.ListComp elt [⟨.Name x px, iter, ifs, 0⟩] sc pos) (tComp wi te tc ix) := by
  intro pins s σ H Q I h
  rw [eval_ListComp]
  refine wpAny_comprehension_free (use := none) rfl hs S.clos S.kind S.names (thn (hi pins s σ H _ I h) fun v s1 h1 => thn h1 fun itv s2 h2 => ?_)
  obtain ⟨it, fp, tn, J, H2, e, I2, T, st2, f2, q⟩ := h2
  subst e
  refine comp_block (RR := fun acc C => compPost (model X.prog X.w) X.A X.xe none (EP X pins σ Q) acc C) (QH := fun D H' => Q (.ref D) H') hc S he ht I2 T st2 f2 q ?_
  intro D C ps σ' H' s' hC I' hq
  obtain ⟨m, hn, _⟩ := I'.loc
  exact ⟨m, hn, fun h'' hs => ⟨.ref D, H', S.back I2 f2 hC I' hs, rfl, hq⟩⟩
theorem ps_setComp {i : Nat} {y : Str} {py spos : Pos} {elt iter : Expr} {px pos : Pos} {ifs : List Expr} {wi : TI} {te : TE} {tc : TT} (hc : X.calm = true) (nd : X.N.Nodup) (hy : X.N[i]? = some y) (hl : Loc X.env.scope y) (S : CompSt X sc x caps ix) (hi : PI X (.Name x px) iter wi)
    (he : ∀ C s H ex, PE (compCx X sc (capCl X caps) (x :: caps) C s H ex) elt te) (ht : ∀ C s H ex, PTs (compCx X sc (capCl X caps) (x :: caps) C s H ex) ifs tc)
    (hsw : swapsWith (.ListComp elt [⟨.Name x px, iter, ifs, 0⟩] sc pos) (some (.Name y py)) spos.line X.env = pure true := by rfl)
    (hs : ∀ x, foldedSetIterable iter X.env x = pure x := by intro _; rfl) (hf : X.fn y = true ∨ X.env.scope.names.lookup y = some .local := by first | exact .inl rfl | exact .inr rfl | assumption) :
    PS X (.Assign [.Name y py] (.ListComp elt [⟨.Name x px, iter, ifs, 0⟩] sc pos) spos) (tAsg (tComp wi te tc ix) (gName i)) := by
  intro pins s σ H D I h
  rw [exec_Assign_Name_used _ _ _ _ hsw]
  refine wpAny_bind (wpAny_standAt (wpAny_bind ?_))
  show wpAny _ X.A (do let _ ← comprehension (.ListComp elt [⟨.Name x px, iter, ifs, 0⟩] sc pos) sc X.env _ (newList []) false (eval iter X.env) (some (assign (.Name y py) X.env))) _ _ s
  refine wpAny_bind (wpAny_mono (wpAny_comprehension_free (use := some (assign (.Name y py) X.env)) (Q := fun _ s' => SP X pins D .next s') rfl hs S.clos S.kind S.names
    (thn (hi pins s σ H _ I h) fun v s1 h1 => thn h1 fun itv s2 h2 => ?_)) (fun _ s' hq => wpAny_pure (wpAny_pure hq)) fun _ _ e => e)
  obtain ⟨it, fp, tn, J, H2, e, I2, T, st2, f2, q⟩ := h2
  subst e
  refine comp_block (RR := fun acc C => compPost (model X.prog X.w) X.A X.xe (some (assign (.Name y py) X.env)) (fun _ s' => SP X pins D .next s') acc C) (QH := fun L H' => D.nx (σ.set i (some (.ref L))) H') hc S he ht I2 T st2 f2 q ?_
  intro L C ps σ' H' s' hC I' hq
  show wpAny _ X.A (assign (.Name y py) X.env (.ref L)) _ _ s'
  have J := S.back I2 f2 hC I' (Heap.SameBut.refl ..)
  refine wpAny_assign_Name (store_ok2 (v := .ref L) (u := .ref L) J nd hy hl rfl (fun s'' I'' ⟨a, hsb, ha⟩ => ?_) hf)
  obtain ⟨m, hn, _⟩ := I'.loc
  have haC : C ≠ a := by
    rcases ha with z | z
    · rw [z]; exact Nat.ne_of_gt (Nat.lt_of_lt_of_le I2.lt hC)
    · obtain ⟨v, o, ho, _⟩ := I2.cell y a z
      exact Nat.ne_of_gt (Nat.lt_of_lt_of_le (Heap.lt_size ho) hC)
  exact ⟨m, hn.sameBut hsb haC, fun h'' hs'' => ⟨_, H', turnC I2 hC I'' I'.free hs'', hq⟩⟩
end
def CNext (n i : Nat) (ys : List V) (D : Addr) (Pv : Nat → List V → Hp → Prop) (y : V) (H3 : Hp) : Prop :=
  H3 D = some (.lst ys) ∧ ys.length < sizeLine ∧ ∃ m', m' < n - i ∧ m' = n - (i + 1) ∧ i + 1 ≤ n ∧ (ys ++ [y]).length = i + 1 ∧ Pv (i + 1) (ys ++ [y]) (upd H3 D (.lst (ys ++ [y])))
theorem CNext.of {n i : Nat} {ys : List V} {D : Addr} {Pv : Nat → List V → Hp → Prop} {y : V} {H3 : Hp} (hn : n ≤ sizeLine) (hi : i < n) (hl : ys.length = i) (h1 : H3 D = some (.lst ys)) (h2 : Pv (i + 1) (ys ++ [y]) (upd H3 D (.lst (ys ++ [y])))) : CNext n i ys D Pv y H3 :=
  ⟨h1, by omega, _, by omega, rfl, hi, by rw [List.length_append, hl]; rfl, h2⟩
theorem comp_list {K : PySem.W.Frag} {a : Addr} {xs : List V} {te : TE} {caps : St} {D : Addr} {H1 : Hp} {Q : Hp → Prop} (Pv : Nat → List V → Hp → Prop) (h0 : Pv 0 [] (upd H1 D (.lst []))) (hl : ∀ i ys H, i ≤ xs.length → Pv i ys H → SqL K H a xs)
    (hs : ∀ i x ys H, xs[i]? = some x → ys.length = i → Pv i ys H → te (some x :: caps) H (CNext xs.length i ys D Pv))
    (hd : ∀ ys H, ys.length = xs.length → Pv xs.length ys H → Q H) : cLoop te tYes caps (Itl K a) D H1 Q := by
  refine ⟨fun i m ys H => m = xs.length - i ∧ i ≤ xs.length ∧ ys.length = i ∧ Pv i ys H, ⟨xs.length, rfl, Nat.zero_le _, rfl, h0⟩, ?_⟩
  rintro i m ys H ⟨rfl, hi, hy, p⟩
  have q := hl i ys H hi p
  by_cases hlt : i < xs.length
  · refine .inr ⟨⟨xs, xs[i], q, by simp [hlt]⟩, fun v H' y => ?_⟩
    obtain ⟨e, y⟩ := y
    subst e
    unfold tYes
    dsimp only
    rw [if_pos rfl]
    exact hs i v ys _ (y xs q) hy p
  · have e : i = xs.length := by omega
    subst e
    exact .inl ⟨⟨xs, q, by simp⟩, hd ys H hy p⟩
theorem comp_list_if {K : PySem.W.Frag} {a : Addr} {xs : List V} {te : TE} {tc : TT} {caps : St} {D : Addr} {H1 : Hp} {Q : Hp → Prop} (Pv : Nat → List V → Hp → Prop) (h0 : Pv 0 [] (upd H1 D (.lst []))) (hl : ∀ i ys H, i ≤ xs.length → Pv i ys H → SqL K H a xs)
    (hs : ∀ i x ys H, xs[i]? = some x → Pv i ys H → tc (some x :: caps) H fun b H2 =>
      if b = true then te (some x :: caps) H2 fun y H3 => H3 D = some (.lst ys) ∧ ys.length < sizeLine ∧ ∃ m', m' < xs.length - i ∧ m' = xs.length - (i + 1) ∧ i + 1 ≤ xs.length ∧ Pv (i + 1) (ys ++ [y]) (upd H3 D (.lst (ys ++ [y])))
      else ∃ m', m' < xs.length - i ∧ m' = xs.length - (i + 1) ∧ i + 1 ≤ xs.length ∧ Pv (i + 1) ys H2)
    (hd : ∀ ys H, Pv xs.length ys H → Q H) : cLoop te tc caps (Itl K a) D H1 Q := by
  refine ⟨fun i m ys H => m = xs.length - i ∧ i ≤ xs.length ∧ Pv i ys H, ⟨xs.length, rfl, Nat.zero_le _, h0⟩, ?_⟩
  rintro i m ys H ⟨rfl, hi, p⟩
  have q := hl i ys H hi p
  by_cases hlt : i < xs.length
  · refine .inr ⟨⟨xs, xs[i], q, by simp [hlt]⟩, fun v H' y => ?_⟩
    obtain ⟨e, y⟩ := y
    subst e
    exact hs i v ys _ (y xs q) p
  · have e : i = xs.length := by omega
    subst e
    exact .inl ⟨⟨xs, q, by simp⟩, hd ys H p⟩
theorem Same.updFresh {H H3 : Hp} {D : Addr} {o : HO} (s : Same H H3) (hD : H D = none) : Same H (L2.upd H3 D o) := fun b u e => by
  rw [upd_ne (ne_of_none e hD)]; exact s b u e
end L2
set_option Elab.async false
set_option linter.all false
set_option maxRecDepth 100000
set_option maxHeartbeats 4000000
namespace L2
open PySem PySem.W PyProof.Rows
def KOk (n : Nat) (lt : Nat → Nat → Bool) {α : Type} : KasT α → (α → Prop) → Prop
  | .ret a, Q => Q a
  | .ask i j k, Q => i < n ∧ j < n ∧ KOk n lt (k (lt i j)) Q
theorem KOk.bind {n : Nat} {lt : Nat → Nat → Bool} {α β : Type} {f : α → KasT β} {Q : β → Prop} : ∀ {t : KasT α}, KOk n lt t (fun a => KOk n lt (f a) Q) → KOk n lt (t.bind f) Q
  | .ret _, h => h
  | .ask _ _ k, h => ⟨h.1, h.2.1, KOk.bind (t := k _) h.2.2⟩
theorem KOk.mono {n : Nat} {lt : Nat → Nat → Bool} {α : Type} {Q Q' : α → Prop} (hq : ∀ a, Q a → Q' a) : ∀ {t : KasT α}, KOk n lt t Q → KOk n lt t Q'
  | .ret _, h => hq _ h
  | .ask _ _ k, h => ⟨h.1, h.2.1, KOk.mono hq (t := k _) h.2.2⟩
theorem KOk.wp {n : Nat} {lt : Nat → Nat → Bool} {α : Type} {cmp : Nat → Nat → (Bool → Shared → Prop) → Shared → Prop} {Q : α → Shared → Prop} {s : Shared} (hc : ∀ i j C, i < n → j < n → C (lt i j) s → cmp i j C s) : ∀ {t : KasT α}, KOk n lt t (fun a => Q a s) → t.kasWp cmp Q s
  | .ret _, h => h
  | .ask i j k, h => hc i j _ h.1 h.2.1 (KOk.wp hc (t := k _) h.2.2)
structure STO (n : Nat) (lt : Nat → Nat → Bool) : Prop where
  tri : ∀ i j, i < n → j < n → i ≠ j → lt i j = true ∨ lt j i = true
  asym : ∀ i j, lt i j = true → lt j i = false
  trans : ∀ i j k, lt i j = true → lt j k = true → lt i k = true
section
variable {n : Nat} {lt : Nat → Nat → Bool} {p : Array Nat}
def at0 (p : Array Nat) (i : Nat) : Nat := p.getD i 0
structure PR (n : Nat) (p : Array Nat) : Prop where
  pm : p.Perm (List.range n).toArray
theorem PR.size (h : PR n p) : p.size = n := by simpa using h.pm.size_eq
theorem PR.bd (h : PR n p) {i : Nat} (hi : i < n) : at0 p i < n := by
  have hs := h.size
  have hm : p[i]'(by omega) ∈ p := Array.getElem_mem _
  have := (h.pm.mem_iff).mp hm
  have e : at0 p i = p[i]'(by omega) := by unfold at0; rw [Array.getD_eq_getD_getElem?, Array.getElem?_eq_getElem (by omega)]; rfl
  rw [e]
  simpa using this
theorem PR.inj (h : PR n p) {i j : Nat} (hi : i < n) (hj : j < n) (e : at0 p i = at0 p j) : i = j := by
  have hs := h.size
  have hnd : p.toList.Nodup := by
    have hp : p.toList.Perm (List.range n) := by simpa using Array.perm_iff_toList_perm.mp h.pm
    exact hp.nodup_iff.mpr List.nodup_range
  have ei : at0 p i = p.toList[i]'(by simpa using (by omega : i < p.size)) := by unfold at0; rw [Array.getD_eq_getD_getElem?, Array.getElem?_eq_getElem (by omega)]; simp
  have ej : at0 p j = p.toList[j]'(by simpa using (by omega : j < p.size)) := by unfold at0; rw [Array.getD_eq_getD_getElem?, Array.getElem?_eq_getElem (by omega)]; simp
  rw [ei, ej] at e
  exact (List.getElem_inj hnd).mp e
def Srt (lt : Nat → Nat → Bool) (p : Array Nat) (k : Nat) : Prop := ∀ i, i + 1 < k → lt (at0 p i) (at0 p (i + 1)) = true
def Dsc (lt : Nat → Nat → Bool) (p : Array Nat) (k : Nat) : Prop := ∀ i, i + 1 < k → lt (at0 p (i + 1)) (at0 p i) = true
theorem Srt.all (S : STO n lt) {k : Nat} (h : Srt lt p k) : ∀ {i j : Nat}, i < j → j < k → lt (at0 p i) (at0 p j) = true := by
  intro i j hij hj
  induction j with
  | zero => omega
  | succ j ih =>
    by_cases e : i = j
    · subst e; exact h i hj
    · exact S.trans _ _ _ (ih (by omega) (by omega)) (h j hj)
theorem asc_ok (S : STO n lt) (hp : PR n p) : ∀ (f a : Nat), 1 ≤ a → a + f ≤ n → Srt lt p a → KOk n lt (kas_asc p f a) (fun m => a ≤ m ∧ m ≤ a + f ∧ Srt lt p m ∧ (m < a + f → lt (at0 p m) (at0 p (m - 1)) = true))
  | 0, a, h1, h2, hs => ⟨Nat.le_refl _, Nat.le_refl _, hs, fun h => by omega⟩
  | f + 1, a, h1, h2, hs => by
    refine ⟨hp.bd (i := a) (by omega), hp.bd (i := a - 1) (by omega), ?_⟩
    cases c : lt (p.getD a 0) (p.getD (a - 1) 0) with
    | true => exact ⟨Nat.le_refl _, by omega, hs, fun _ => c⟩
    | false =>
      have hs' : Srt lt p (a + 1) := fun i hi => by
        by_cases e : i + 1 = a
        · have e' : i = a - 1 := by omega
          subst e'
          rcases S.tri (at0 p (a - 1)) (at0 p a) (hp.bd (by omega)) (hp.bd (by omega)) (fun z => by have := hp.inj (by omega) (by omega) z; omega) with z | z
          · rw [show a - 1 + 1 = a by omega]; exact z
          · have z' : lt (p.getD a 0) (p.getD (a - 1) 0) = true := z
            rw [c] at z'; cases z'
        · exact hs i (by omega)
      refine KOk.mono (fun m hm => ?_) (asc_ok S hp f (a + 1) (by omega) (by omega) hs')
      exact ⟨by omega, by omega, hm.2.2.1, fun h => hm.2.2.2 (by omega)⟩
theorem desc_ok (S : STO n lt) (hp : PR n p) : ∀ (f a : Nat), 1 ≤ a → a + f ≤ n → Dsc lt p a → KOk n lt (kas_desc f p a 0) (fun r => r.1 = p ∧ r.2.2 = 0 ∧ a ≤ r.2.1 ∧ r.2.1 ≤ a + f ∧ Dsc lt p r.2.1)
  | 0, a, h1, h2, hs => ⟨rfl, rfl, Nat.le_refl _, Nat.le_refl _, hs⟩
  | f + 1, a, h1, h2, hs => by
    refine ⟨hp.bd (i := a) (by omega), hp.bd (i := a - 1) (by omega), ?_⟩
    cases c : lt (p.getD a 0) (p.getD (a - 1) 0) with
    | true =>
      dsimp only
      rw [if_pos rfl, if_neg (by omega)]
      have hs' : Dsc lt p (a + 1) := fun i hi => by
        by_cases e : i + 1 = a
        · have e' : i = a - 1 := by omega
          subst e'
          rw [show a - 1 + 1 = a by omega]; exact c
        · exact hs i (by omega)
      refine KOk.mono (fun m hm => ?_) (desc_ok S hp f (a + 1) (by omega) (by omega) hs')
      exact ⟨hm.1, hm.2.1, by omega, by omega, hm.2.2.2.2⟩
    | false =>
      dsimp only
      rw [if_neg (by simp)]
      refine ⟨hp.bd (i := a - 1) (by omega), hp.bd (i := a) (by omega), ?_⟩
      have d : lt (p.getD (a - 1) 0) (p.getD a 0) = true := by
        rcases S.tri (at0 p (a - 1)) (at0 p a) (hp.bd (by omega)) (hp.bd (by omega)) (fun z => by have := hp.inj (by omega) (by omega) z; omega) with z | z
        · exact z
        · have z' : lt (p.getD a 0) (p.getD (a - 1) 0) = true := z
          rw [c] at z'; cases z'
      rw [d]
      dsimp only
      rw [if_pos rfl]
      exact ⟨rfl, rfl, Nat.le_refl _, Nat.le_add_right _ _, hs⟩
theorem rev_at (hp : PR n p) {m k : Nat} (hm : m ≤ n) (hk : k < m) : at0 (kas_rev p 0 m) k = at0 p (m - 1 - k) := by
  have hs := hp.size
  unfold at0 kas_rev
  rw [Array.getD_eq_getD_getElem?, Array.getD_eq_getD_getElem?, getElem?_mirror_all (by omega), if_pos ⟨by omega, hk⟩]
  rw [show 0 + m - 1 - k = m - 1 - k by omega]
theorem rev_ok (S : STO n lt) (hp : PR n p) {m : Nat} (hm : m ≤ n) (h : Dsc lt p m) : PR n (kas_rev p 0 m) ∧ Srt lt (kas_rev p 0 m) m := by
  refine ⟨⟨(mirror_perm ..).trans hp.pm⟩, fun i hi => ?_⟩
  rw [rev_at hp hm (by omega), rev_at hp hm (by omega)]
  have := h (m - 1 - (i + 1)) (by omega)
  rw [show m - 1 - (i + 1) + 1 = m - 1 - i by omega] at this
  exact this
theorem tail3_ok (S : STO n lt) (hp : PR n p) {m : Nat} (h1 : 1 ≤ m) (hm : m ≤ n) (h : Dsc lt p m) : KOk n lt (kas_tail3 m n p) (fun r => PR n r.2 ∧ r.1 ≤ n ∧ 1 ≤ r.1 ∧ Srt lt r.2 r.1) := by
  obtain ⟨hp', hs⟩ := rev_ok S hp hm h
  refine KOk.bind (KOk.mono (fun k hk => ?_) (asc_ok S hp' (n - m) m h1 (by omega) hs))
  exact ⟨hp', by omega, by omega, hk.2.2.1⟩
theorem descPart_ok (S : STO n lt) (hp : PR n p) (h2 : 2 ≤ n) (h : lt (at0 p 1) (at0 p 0) = true) : KOk n lt (kas_descPart 1 n p) (fun r => PR n r.2 ∧ r.1 ≤ n ∧ 1 ≤ r.1 ∧ Srt lt r.2 r.1) := by
  have hs : Dsc lt p 2 := fun i hi => by
    have e : i = 0 := by omega
    subst e; exact h
  refine KOk.bind (KOk.mono (fun r hr => ?_) (desc_ok S hp (n - (1 + 1)) (1 + 1) (by omega) (by omega) hs))
  obtain ⟨e1, e2, h3, h4, h5⟩ := hr
  rw [e2, if_neg (by omega), e1]
  exact tail3_ok S hp (by omega) (by omega) h5
theorem count_ok (S : STO n lt) (hp : PR n p) (h2 : 2 ≤ n) : KOk n lt (kas_count n p) (fun r => PR n r.2 ∧ r.1 ≤ n ∧ 1 ≤ r.1 ∧ Srt lt r.2 r.1) := by
  refine KOk.bind (KOk.mono (fun m hm => ?_) (asc_ok S hp (n - 1) 1 (Nat.le_refl _) (by omega) (fun i hi => by omega)))
  obtain ⟨m1, m2, hs, hstop⟩ := hm
  by_cases e : m = n
  · rw [if_pos (by simp [e])]
    exact ⟨hp, by omega, m1, hs⟩
  · rw [if_neg (by simp [e])]
    by_cases e1 : m > 1
    · rw [if_pos e1]
      refine ⟨hp.bd (i := 0) (by omega), hp.bd (i := m - 1) (by omega), ?_⟩
      have c : lt (p.getD 0 0) (p.getD (m - 1) 0) = true := Srt.all S hs (i := 0) (j := m - 1) (by omega) (by omega)
      rw [c]
      dsimp only
      rw [if_pos rfl]
      exact ⟨hp, by omega, m1, hs⟩
    · rw [if_neg e1]
      have e2 : m = 1 := by omega
      subst e2
      exact descPart_ok S hp h2 (hstop (by omega))
theorem place_ok (S : STO n lt) (hp : PR n p) {k : Nat} (hk : k < n) (hs : Srt lt p k) : ∀ (f l r : Nat), r - l ≤ f → l ≤ r → r ≤ k → (∀ i, i < l → lt (at0 p i) (at0 p k) = true) → (∀ i, r ≤ i → i < k → lt (at0 p k) (at0 p i) = true) →
    KOk n lt (kas_place p k f l r) (fun l => l ≤ k ∧ (∀ i, i < l → lt (at0 p i) (at0 p k) = true) ∧ ∀ i, l ≤ i → i < k → lt (at0 p k) (at0 p i) = true)
  | 0, l, r, h1, h2, h3, h4, h5 => ⟨by omega, h4, fun i hi hik => h5 i (by omega) hik⟩
  | f + 1, l, r, h1, h2, h3, h4, h5 => by
    unfold kas_place
    by_cases e : l ≥ r
    · rw [if_pos e]
      exact ⟨by omega, h4, fun i hi hik => h5 i (by omega) hik⟩
    · rw [if_neg e]
      refine ⟨hp.bd (i := k) hk, hp.bd (i := (l + r) / 2) (by omega), ?_⟩
      have hmid : (l + r) / 2 < r ∧ l ≤ (l + r) / 2 := by omega
      cases c : lt (p.getD k 0) (p.getD ((l + r) / 2) 0) with
      | true =>
        dsimp only
        rw [if_pos rfl]
        refine place_ok S hp hk hs f l ((l + r) / 2) (by omega) (by omega) (by omega) h4 fun i hi hik => ?_
        by_cases e2 : i = (l + r) / 2
        · subst e2; exact c
        · exact S.trans _ _ _ c (Srt.all S hs (by omega) hik)
      | false =>
        dsimp only
        rw [if_neg (by simp)]
        have d : lt (at0 p ((l + r) / 2)) (at0 p k) = true := by
          rcases S.tri (at0 p ((l + r) / 2)) (at0 p k) (hp.bd (by omega)) (hp.bd hk) (fun z => by have := hp.inj (by omega) hk z; omega) with z | z
          · exact z
          · have z' : lt (p.getD k 0) (p.getD ((l + r) / 2) 0) = true := z
            rw [c] at z'; cases z'
        refine place_ok S hp hk hs f ((l + r) / 2 + 1) r (by omega) (by omega) h3 (fun i hi => ?_) h5
        by_cases e2 : i = (l + r) / 2
        · subst e2; exact d
        · exact S.trans _ _ _ (Srt.all S hs (i := i) (j := (l + r) / 2) (by omega) (by omega)) d
theorem bubble_at (hp : PR n p) {k l j : Nat} (hk : k < n) (hl : l ≤ k) : at0 (bubble p k (k - l)) j = if j = l then at0 p k else if l < j ∧ j ≤ k then at0 p (j - 1) else at0 p j := by
  have hs := hp.size
  unfold at0
  rw [Array.getD_eq_getD_getElem?, getElem?_bubble (by omega) (k - l) (by omega) j, show k - (k - l) = l by omega]
  repeat' split
  all_goals rw [Array.getD_eq_getD_getElem?]
theorem bin_ok (S : STO n lt) : ∀ (f k : Nat) (p : Array Nat), PR n p → k + f = n → Srt lt p k → KOk n lt (kas_bin f p k) (fun q => PR n q ∧ Srt lt q n)
  | 0, k, p, hp, hk, hs => by
    have e : k = n := by omega
    subst e
    exact ⟨hp, hs⟩
  | f + 1, k, p, hp, hk, hs => by
    refine KOk.bind (KOk.mono (fun l hl => ?_) (place_ok S hp (by omega) hs k 0 k (by omega) (by omega) (Nat.le_refl _) (fun i hi => by omega) (fun i h1 h2 => by omega)))
    obtain ⟨h1, h2, h3⟩ := hl
    refine bin_ok S f (k + 1) _ ⟨(bubble_perm ..).trans hp.pm⟩ (by omega) fun i hi => ?_
    rw [bubble_at hp (by omega) h1, bubble_at hp (by omega) h1]
    by_cases c1 : i + 1 < l
    · rw [if_neg (by omega), if_neg (by omega), if_neg (by omega), if_neg (by omega)]
      exact hs i (by omega)
    · by_cases c2 : i + 1 = l
      · rw [if_neg (by omega), if_neg (by omega), if_pos c2]
        exact h2 i (by omega)
      · by_cases c3 : i = l
        · rw [if_pos c3, if_neg (by omega), if_pos (by omega), show i + 1 - 1 = i by omega]
          exact h3 i (by omega) (by omega)
        · rw [if_neg c3, if_pos (by omega), if_neg (by omega), if_pos (by omega), show i + 1 - 1 = i by omega]
          have := hs (i - 1) (by omega)
          rw [show i - 1 + 1 = i by omega] at this
          exact this
theorem sort_ok (S : STO n lt) (h2 : 2 ≤ n) : KOk n lt (kas_sort n) (fun q => PR n q ∧ Srt lt q n) := by
  refine KOk.bind (KOk.mono (fun r hr => ?_) (count_ok S ⟨Array.Perm.refl _⟩ h2))
  obtain ⟨h1, h3, h4, h5⟩ := hr
  by_cases e : r.1 < n
  · rw [if_pos e, show max r.1 1 = r.1 by omega]
    exact bin_ok S _ _ _ h1 (by omega) h5
  · rw [if_neg e]
    exact ⟨h1, by have e2 : r.1 = n := by omega
                  rw [← e2]; exact h5⟩
end
section
variable {prog : Program} {w : World} {A : Around} {E : Value → Shared → Prop} {s : Shared}
def outOf (vs : List Value) (p : Array Nat) : List Value := p.toList.map fun i => vs.getD i Value.none
theorem outOf_len {vs : List Value} {p : Array Nat} (hp : PR vs.length p) : (outOf vs p).length = vs.length := by
  unfold outOf; rw [List.length_map, Array.length_toList, hp.size]
theorem outOf_range {vs : List Value} (h : vs.length < 2) : outOf vs (List.range vs.length).toArray = vs := by
  match vs, h with
  | [], _ => rfl
  | [_], _ => rfl
theorem zip_snd (vs : List Value) : (vs.toArray.zip vs.toArray).map (·.2) = vs.toArray := by
  apply Array.toList_inj.mp
  rw [Array.toList_map, Array.toList_zip]
  exact List.map_snd_zip (Nat.le_refl _)
theorem lsort_by {a : Addr} {vs : List Value} {n : Nat} {lt : Nat → Nat → Bool} {P : PySem.Fin → Shared → Prop} (ho : s.heap.get? a = some (seqObj "list" vs.toArray n)) (S : STO vs.length lt) (h64 : vs.length < 64)
    (hc : 2 ≤ vs.length → ∀ h' : Heap, (∀ b o, b ≠ a → s.heap.get? b = some o → h'.get? b = some o) → ∃ κ : SortKind,
      (∀ (R : SortKind → Shared → Prop), R κ { s with heap := h' } → wpAny (model prog w) A (keyKind' vs.toArray) R (fun _ _ => False) { s with heap := h' }) ∧
      ∀ i j (C : Bool → Shared → Prop), i < vs.length → j < vs.length → C (lt i j) { s with heap := h' } → wpAny (model prog w) A (keyLt' κ (vs.getD i Value.none) (vs.getD j Value.none)) C (fun _ _ => False) { s with heap := h' })
    (h : ∀ (h' : Heap) (p : Array Nat) (c : Nat), (∀ b o, b ≠ a → s.heap.get? b = some o → h'.get? b = some o) → h'.get? a = some (seqObj "list" (outOf vs p).toArray c) → PR vs.length p → Srt lt p vs.length → P (.done (.ret .none)) { s with heap := h' }) :
    wpAny (model prog w) A (Builtin.«list.sort» ⟨[.ref a], []⟩) P E s := by
  have ha : a < s.heap.objs.size := Heap.lt_size ho
  have s1 := Heap.SameBut.update s.heap a (Obj.mapSeq fun _ => (#[] : Array Value))
  obtain ⟨e1, ho1⟩ : ∃ e1, (s.heap.update a (Obj.mapSeq fun _ => (#[] : Array Value))).get? a = some (seqObj "list" #[] e1) := ⟨_, get?_update_seq ho fun _ => #[]⟩
  rw [list_sort_plain]
  refine wpAny_bind (listItems_at ho rfl ?_)
  refine wpAny_bind (listUpdate_at ho rfl ?_ (by rw [List.size_toArray, sizeLine_eq]; omega) (Nat.zero_le _))
  refine wpAny_bind (seqEpoch_at ho1 rfl ?_)
  refine wpAny_bind (wpAny_newTuple ?_ (by show vs.length ≤ _; rw [sizeLine_eq]; omega))
  refine wpAny_bind (wpAny_newList ?_ (Nat.zero_le _))
  refine wpAny_holding ?_
  generalize hH : ((s.heap.update a (Obj.mapSeq fun _ => (#[] : Array Value))).push (seqObj "tuple" vs.toArray 0)).push (seqObj "list" #[] 0) = H3
  show wpAny (model prog w) A _ P E { s with heap := H3 }
  dsimp only
  have keep3 : ∀ b o, b ≠ a → s.heap.get? b = some o → H3.get? b = some o := fun b o hb e => by
    rw [← hH]; exact Heap.get?_push_of_some _ (Heap.get?_push_of_some _ ((s1.2 b hb).trans e))
  have at3 : H3.get? a = some (seqObj "list" #[] e1) := by rw [← hH]; exact Heap.get?_push_of_some _ (Heap.get?_push_of_some _ ho1)
  have fin : ∀ (p : Array Nat), PR vs.length p → Srt lt p vs.length → P (.done (.ret .none)) { s with heap := H3.update a (Obj.mapSeq fun _ => (outOf vs p).toArray) } := fun p hp hs => by
    obtain ⟨c2, hc2⟩ : ∃ c2, (H3.update a (Obj.mapSeq fun _ => (outOf vs p).toArray)).get? a = some (seqObj "list" (outOf vs p).toArray c2) := ⟨_, get?_update_seq at3 fun _ => (outOf vs p).toArray⟩
    exact h _ p c2 (fun b o hb e => ((Heap.SameBut.update H3 a _).2 b hb).trans (keep3 b o hb e)) hc2 hp hs
  by_cases h2 : vs.toArray.size < 2
  · rw [if_pos h2, if_pos h2]
    have hl2 : vs.length < 2 := by simpa using h2
    refine wpAny_bind (wpAny_pure ?_)
    rw [StateT.run_pure]
    refine wpAny_bind (wpAny_pure ?_)
    dsimp only
    refine wpAny_bind (seqEpoch_at at3 rfl ?_)
    have ez : ((vs.toArray.zip vs.toArray).map (·.2)) = (outOf vs (List.range vs.length).toArray).toArray := by
      rw [outOf_range hl2]
      exact zip_snd vs
    show wpAny _ _ (Builtin.List.listUpdate (.ref a) (fun _ => (vs.toArray.zip vs.toArray).map (·.2)) >>= _) _ _ _
    rw [ez]
    refine wpAny_bind (listUpdate_at at3 rfl ?_ (Nat.zero_le _) (by show (outOf vs (List.range vs.length).toArray).toArray.size ≤ _; rw [outOf_range hl2, List.size_toArray, sizeLine_eq]; omega))
    simp only [bne_self_eq_false, Bool.false_eq_true, if_false]
    exact wpAny_pure (fin _ ⟨Array.Perm.refl _⟩ fun i hi => by omega)
  · rw [if_neg h2, if_neg h2]
    have hl2 : 2 ≤ vs.length := by simpa using h2
    obtain ⟨κ, k1, k2⟩ := hc hl2 H3 keep3
    refine wpAny_bind (wpAny_mono (k1 (fun κ' s' => κ' = κ ∧ s' = { s with heap := H3 }) ⟨rfl, rfl⟩) ?_ fun _ _ x => x.elim)
    rintro κ' s' ⟨rfl, rfl⟩
    refine wpAny_bind (wpAny_mono (kat_run (Q := fun st' s' => ∃ p : Array Nat, arrOf st' = p.map (kas_item (vs.toArray.zip vs.toArray)) ∧ failedOf st' = none ∧ PR vs.length p ∧ Srt lt p vs.length ∧ s' = { s with heap := H3 })
      (G := fun p s' => PR vs.length p ∧ Srt lt p vs.length ∧ s' = { s with heap := H3 }) rfl hl2 h64 (fun p' st' s' a1 a2 a3 a4 => ⟨p', a2, a3, a4⟩)
      (KOk.wp (fun i j C hi hj q => k2 i j C hi hj q) (KOk.mono (fun q hq => ⟨hq.1, hq.2, rfl⟩) (sort_ok S hl2)))) ?_ fun _ _ e => e)
    rintro ⟨⟨⟩, st'⟩ s' ⟨p, har, hf, hp, hs, rfl⟩
    dsimp only
    refine wpAny_bind (seqEpoch_at at3 rfl ?_)
    have hout : (arrOf st').map (·.2) = (outOf vs p).toArray := kat_snds rfl har
    rw [hout]
    refine wpAny_bind (listUpdate_at at3 rfl ?_ (Nat.zero_le _) (by show (outOf vs p).toArray.size ≤ _; rw [List.size_toArray, outOf_len hp, sizeLine_eq]; omega))
    rw [hf]
    simp only [bne_self_eq_false, Bool.false_eq_true, if_false]
    exact wpAny_pure (fin p hp hs)
theorem sorted_by {l : Addr} {vs : List Value} {lt : Nat → Nat → Bool} {Q : Value → Shared → Prop} (hl : s.heap.IsList l vs.toArray) (S : STO vs.length lt) (h64 : vs.length < 64)
    (hc : 2 ≤ vs.length → ∀ h' : Heap, (∀ b o, s.heap.get? b = some o → h'.get? b = some o) → ∃ κ : SortKind,
      (∀ (R : SortKind → Shared → Prop), R κ { s with heap := h' } → wpAny (model prog w) A.in1.in1 (keyKind' vs.toArray) R (fun _ _ => False) { s with heap := h' }) ∧
      ∀ i j (C : Bool → Shared → Prop), i < vs.length → j < vs.length → C (lt i j) { s with heap := h' } → wpAny (model prog w) A.in1.in1 (keyLt' κ (vs.getD i Value.none) (vs.getD j Value.none)) C (fun _ _ => False) { s with heap := h' })
    (h : ∀ (D : Addr) (h' : Heap) (p : Array Nat) (c : Nat), s.heap.objs.size ≤ D → (∀ b o, s.heap.get? b = some o → h'.get? b = some o) → h'.get? D = some (seqObj "list" (outOf vs p).toArray c) → PR vs.length p → Srt lt p vs.length → Q (.ref D) { s with heap := h' }) :
    wpAny (model prog w) A (call (.builtin "sorted") [.ref l]) Q E s := by
  refine Calls.call_function_entry kind_sorted plain_sorted entry_sorted (args_sorted1 _) ?_
  unfold Builtin.«sorted»
  refine wpAny_bind (m := checkCount "sorted" 1 1 _) (wpAny_pure ?_)
  refine wpAny_bind (collect_list hl ?_ (by rw [sizeLine_eq]; omega))
  refine wpAny_bind (wpAny_newList ?_ (by rw [sizeLine_eq]; omega))
  have hsz : ((s.heap.push (seqObj "list" #[] 0)).update s.heap.objs.size (Obj.mapSeq (· ++ vs.toArray))).objs.size = s.heap.objs.size + 1 := by
    rw [Heap.size_update, size_push']
  have hoL : (((s.heap.push (seqObj "list" #[] 0)).update s.heap.objs.size (Obj.mapSeq (· ++ vs.toArray))).push (seqObj "list" vs.toArray 0)).get? (s.heap.objs.size + 1) = some (seqObj "list" vs.toArray 0) := by
    rw [← hsz]; exact Heap.get?_push_size _ rfl
  have keep : ∀ b o, s.heap.get? b = some o → (((s.heap.push (seqObj "list" #[] 0)).update s.heap.objs.size (Obj.mapSeq (· ++ vs.toArray))).push (seqObj "list" vs.toArray 0)).get? b = some o := fun b o q => by
    have hlt : b < s.heap.objs.size := Heap.lt_size q
    rw [Heap.get?_push_ne _ _ _ (by rw [hsz]; exact Nat.ne_of_lt (Nat.lt_succ_of_lt hlt)), Heap.get?_update_ne _ _ _ _ (Nat.ne_of_lt hlt), Heap.get?_push_ne _ _ _ (Nat.ne_of_lt hlt)]
    exact q
  show wpAny _ _ _ _ _ { s with heap := ((s.heap.push (seqObj "list" #[] 0)).update s.heap.objs.size (Obj.mapSeq (· ++ vs.toArray))).push (seqObj "list" vs.toArray 0) }
  rw [hsz]
  have ne : ∀ b o, s.heap.get? b = some o → b ≠ s.heap.objs.size + 1 := fun b o q => Nat.ne_of_lt (Nat.lt_succ_of_lt (Heap.lt_size q))
  refine wpAny_bind (wpAny_holding (wpAny_call_entry slot_list_sort ⟨_, hoL, rfl⟩ entry_list_sort ?body (args_list_sort _)))
  case body =>
    refine lsort_by (s := { s with heap := ((s.heap.push (seqObj "list" #[] 0)).update s.heap.objs.size (Obj.mapSeq (· ++ vs.toArray))).push (seqObj "list" vs.toArray 0) }) hoL S h64
      (fun h2 h' k => hc h2 h' fun b o q => k b o (ne b o q) (keep b o q)) fun h' p c k hat hp hs => ?_
    exact ⟨_, rfl, wpAny_pure ⟨_, rfl, h _ h' p c (Nat.le_succ _) (fun b o q => k b o (ne b o q) (keep b o q)) hat hp hs⟩⟩
end
theorem lex_asym : ∀ {a b : List Int}, HT.lexLt a b = true → HT.lexLt b a = false
  | [], [], h => by cases h
  | [], _ :: _, _ => rfl
  | _ :: _, [], h => by cases h
  | x :: r, y :: t, h => by
    rw [HT.lexLt_cons] at h ⊢
    by_cases e : x = y
    · rw [if_pos e] at h; rw [if_pos e.symm]; exact lex_asym h
    · rw [if_neg e] at h; rw [if_neg (Ne.symm e)]
      have := of_decide_eq_true h
      exact decide_eq_false (by omega)
theorem lex_trans : ∀ {a b c : List Int}, HT.lexLt a b = true → HT.lexLt b c = true → HT.lexLt a c = true
  | [], _, [], _, h => by rename_i b _; cases b <;> cases h
  | [], _, _ :: _, _, _ => rfl
  | _ :: _, [], _, h, _ => by cases h
  | _ :: _, _ :: _, [], _, h => by cases h
  | x :: r, y :: t, z :: u, h1, h2 => by
    rw [HT.lexLt_cons] at h1 h2 ⊢
    by_cases e1 : x = y
    · rw [if_pos e1] at h1
      by_cases e2 : y = z
      · rw [if_pos e2] at h2; rw [if_pos (e1.trans e2)]; exact lex_trans h1 h2
      · rw [if_neg e2] at h2; rw [if_neg (by omega), e1]; exact h2
    · rw [if_neg e1] at h1
      by_cases e2 : y = z
      · rw [if_neg (by omega), ← e2]; exact h1
      · rw [if_neg e2] at h2
        have d1 := of_decide_eq_true h1
        have d2 := of_decide_eq_true h2
        rw [if_neg (by omega)]
        exact decide_eq_true (by omega)
theorem lex_tri : ∀ {a b : List Int}, a ≠ b → HT.lexLt a b = true ∨ HT.lexLt b a = true
  | [], [], h => absurd rfl h
  | [], _ :: _, _ => .inl rfl
  | _ :: _, [], _ => .inr rfl
  | x :: r, y :: t, h => by
    rw [HT.lexLt_cons, HT.lexLt_cons]
    by_cases e : x = y
    · rw [if_pos e, if_pos e.symm]
      exact lex_tri fun z => h (by rw [e, z])
    · rw [if_neg e, if_neg (Ne.symm e)]
      rcases (by omega : x < y ∨ y < x) with z | z
      · exact .inl (decide_eq_true z)
      · exact .inr (decide_eq_true z)
theorem lex_sto {ts : List (List Int)} (h : ts.Nodup) : STO ts.length (fun i j => HT.lexLt (ts.getD i []) (ts.getD j [])) where
  tri := fun i j hi hj hij => lex_tri fun z => hij ((List.getElem_inj h).mp (by simpa [List.getD_eq_getElem?_getD, hi, hj] using z))
  asym := fun _ _ => lex_asym
  trans := fun _ _ _ => lex_trans
section
variable {prog : Program} {w : World} {A : Around} {s : Shared}
theorem katlex_ints {Q : Bool → Shared → Prop} : ∀ {t1 t2 : List Int} {us ws : List Value} (i : Nat) (fin : Bool), Vals (t1.map V.int) us → Vals (t2.map V.int) ws → fin = decide (t1.length < t2.length) → Q (HT.lexLt t1 t2) s →
    KatLex prog w A true fin Q (us.zip ws) i s
  | [], [], us, ws, i, fin, r1, r2, hf, q => by
    cases r1; cases r2
    rw [hf]; exact q
  | [], _ :: _, us, ws, i, fin, r1, r2, hf, q => by
    cases r1
    rw [hf]; exact q
  | x :: t1, [], us, ws, i, fin, r1, r2, hf, q => by
    cases r2
    have e : us.zip ([] : List Value) = [] := by cases us <;> rfl
    rw [e, hf]; exact q
  | x :: t1, y :: t2, us, ws, i, fin, r1, r2, hf, q => by
    cases r1 with
    | cons ra rb =>
      cases r2 with
      | cons rc rd =>
        obtain ⟨k1, rfl⟩ := ra
        obtain ⟨k2, rfl⟩ := rc
        refine kat_cons (wpAny_eqBool_int ?_)
        rw [HT.lexLt_cons] at q
        by_cases e : x = y
        · rw [if_pos e] at q
          have e2 : (x == y) = true := by simpa using e
          rw [e2]
          refine kat_yes (katlex_ints (i + 1) fin rb rd ?_ q)
          rw [hf]; simp
        · rw [if_neg e] at q
          have e2 : (x == y) = false := by simpa using e
          rw [e2]
          refine kat_no ?_
          cases i with
          | zero => exact oneLt_int q
          | succ i => exact kat_one _ _ (lt_int (show W.BoolBack Q (.bool (decide (x < y))) s from q))
end
section
variable {X : Cx}
theorem refs_vals : ∀ {zs : List (Addr × List Int)} {us : List Value}, Vals (zs.map fun z => V.ref z.1) us → us = zs.map fun z => Value.ref z.1
  | [], _, r => by cases r; rfl
  | z :: zs, _, r => by
    cases r with
    | cons ra rb =>
      cases ra
      rw [refs_vals rb]; rfl
theorem kat_tups {h : Heap} {K : PySem.W.Frag} {M : Model} : ∀ {zs : List (Addr × List Int)}, (∀ z ∈ zs, z.2 ≠ [] ∧ ∃ its : List Value, Vals (z.2.map V.int) its ∧ IsTup h z.1 its.toArray) →
    ∃ fs : List Value, KatTups h (zs.map fun z => Value.ref z.1) fs ∧ fs.length = zs.length ∧ ∀ v ∈ fs, ∃ i t, v = Value.int i t
  | [], _ => ⟨[], .nil, rfl, fun _ hv => absurd hv (by simp)⟩
  | z :: zs, hz => by
    obtain ⟨fs, h1, h2, h3⟩ := kat_tups (h := h) (K := K) (M := M) (zs := zs) fun y hy => hz y (List.mem_cons_of_mem _ hy)
    obtain ⟨hne, its, rv, o, ho, hc, n, hd⟩ := hz z List.mem_cons_self
    obtain ⟨a, t⟩ := z
    cases t with
    | nil => exact absurd rfl hne
    | cons x t =>
      cases rv with
      | cons ra rb =>
        obtain ⟨tk, rfl⟩ := ra
        refine ⟨.int x tk :: fs, KatTups.cons ho hc hd (by simp) h1, by rw [List.length_cons, List.length_cons, h2], fun v hv => ?_⟩
        rcases List.mem_cons.mp hv with rfl | hv
        · exact ⟨x, tk, rfl⟩
        · exact h3 v hv
def rSortT (K : PySem.W.Frag) : List V → Hp → VK → Prop := fun xs H Q => ∃ l, xs = [.ref l] ∧ ∃ zs : List (Addr × List Int), SqL K H l (zs.map fun z => V.ref z.1) ∧ (∀ z ∈ zs, z.2 ≠ [] ∧ SqT K H z.1 (z.2.map V.int)) ∧ (zs.map (·.2)).Nodup ∧ zs.length < 64 ∧
  ∀ (D : Addr) (H' : Hp) (zs' : List (Addr × List Int)), H D = none → Same H H' → H' D = some (.lst (zs'.map fun z => V.ref z.1)) → zs'.Perm zs → zs'.Pairwise (fun a b => HT.lexLt a.2 b.2 = true) → Q (.ref D) H'
theorem getD_ref {zs : List (Addr × List Int)} {i : Nat} (hi : i < zs.length) : (zs.map fun z => Value.ref z.1).getD i Value.none = Value.ref (zs[i]).1 := by
  rw [List.getD_eq_getElem?_getD, List.getElem?_map, List.getElem?_eq_getElem hi]; rfl
def pick {α : Type} (d : α) (xs : List α) (p : Array Nat) : List α := p.toList.map fun i => xs.getD i d
theorem pick_perm {α : Type} (d : α) (xs : List α) {p : Array Nat} (hp : PR xs.length p) : (pick d xs p).Perm xs := by
  have h1 : p.toList.Perm (List.range xs.length) := by simpa using Array.perm_iff_toList_perm.mp hp.pm
  have h2 := h1.map fun i => xs.getD i d
  have h3 : ((List.range xs.length).map fun i => xs.getD i d) = xs := by
    refine List.ext_getElem (by simp) fun i h1 h2 => ?_
    simp [List.getD_eq_getElem?_getD]
    rw [List.getElem?_eq_getElem h2]; rfl
  rw [h3] at h2
  exact h2
theorem pick_map {α β : Type} (d : α) (e : β) (f : α → β) (xs : List α) {p : Array Nat} (hp : PR xs.length p) : pick e (xs.map f) p = (pick d xs p).map f := by
  unfold pick
  rw [List.map_map]
  refine List.map_congr_left fun i hi => ?_
  have hi' : i < xs.length := by
    have := (hp.pm.mem_iff).mp (Array.mem_toList_iff.mp hi)
    simpa using this
  show (xs.map f).getD i e = f (xs.getD i d)
  rw [List.getD_eq_getElem?_getD, List.getD_eq_getElem?_getD, List.getElem?_map, List.getElem?_eq_getElem hi']; rfl
theorem pick_at {α : Type} (d : α) (xs : List α) {p : Array Nat} {k : Nat} (hk : k < (pick d xs p).length) : (pick d xs p)[k] = xs.getD (at0 p k) d := by
  have hk' : k < p.size := by simpa [pick] using hk
  have e : (pick d xs p)[k]? = some (xs.getD (at0 p k) d) := by
    unfold pick at0
    rw [List.getElem?_map, Array.getElem?_toList, Array.getD_eq_getD_getElem?, Array.getElem?_eq_getElem hk']; rfl
  rw [List.getElem?_eq_getElem hk] at e
  exact Option.some.inj e
theorem call_sortedT : CallR X (.builtin "sorted") (rSortT X.K) := by
  intro pins s σ H xs us Q I r h
  obtain ⟨l, rfl, zs, hl, ht, nd, h64, q⟩ := h
  obtain ⟨u, rfl, ru⟩ := vals1 r
  cases ru
  obtain ⟨its, rv, pl, hz⟩ := I.list hl
  have ei := refs_vals rv
  subst ei
  have hlen : (zs.map fun z => Value.ref z.1).length = zs.length := List.length_map _
  have S : STO (zs.map fun z => Value.ref z.1).length (fun i j => HT.lexLt ((zs.map (·.2)).getD i []) ((zs.map (·.2)).getD j [])) := by
    rw [hlen]
    have := lex_sto nd
    rw [List.length_map] at this
    exact this
  refine sorted_by pl.isList S (by rw [hlen]; exact h64) (fun h2 h' kp => ?_) fun D h' p c hD kp hat hp hs => ?_
  · have tups : ∀ z ∈ zs, z.2 ≠ [] ∧ ∃ its : List Value, Vals (z.2.map V.int) its ∧ IsTup h' z.1 its.toArray := fun z hz => by
      obtain ⟨n1, n2⟩ := ht z hz
      obtain ⟨its, r1, ⟨o, ho, hc⟩, _⟩ := I.tuple n2
      exact ⟨n1, its, r1, o, kp _ _ ho, hc⟩
    obtain ⟨fs, t1, t2, t3⟩ := kat_tups (K := X.K) (M := model X.prog X.w) tups
    refine ⟨tuples' (Value.type "int" != Value.type "tuple"), fun R hR => ?_, fun i j C hi hj hC => ?_⟩
    · refine kat_kind t1 (by rw [t2]; rw [hlen] at h2; omega) (fun v hv => ?_) (by decide) hR
      obtain ⟨i, t, rfl⟩ := t3 v hv
      exact .of_pure rfl
    · rw [hlen] at hi hj
      rw [getD_ref hi, getD_ref hj]
      obtain ⟨_, i1, r1, o1, ho1, _, n1, hd1⟩ := tups zs[i] (List.getElem_mem hi)
      obtain ⟨_, i2, r2, o2, ho2, _, n2, hd2⟩ := tups zs[j] (List.getElem_mem hj)
      have eb : (Value.type "int" != Value.type "tuple") = true := by decide
      rw [eb]
      have l1 := r1.length
      have l2 := r2.length
      rw [List.length_map] at l1 l2
      refine kat_lt ho1 hd1 ho2 hd2 ?_
      refine katlex_ints 0 _ r1 r2 ?_ ?_
      · simp [l1, l2]
      · have g1 : (zs.map (·.2)).getD i [] = zs[i].2 := by rw [List.getD_eq_getElem?_getD, List.getElem?_map, List.getElem?_eq_getElem hi]; rfl
        have g2 : (zs.map (·.2)).getD j [] = zs[j].2 := by rw [List.getD_eq_getElem?_getD, List.getElem?_map, List.getElem?_eq_getElem hj]; rfl
        rw [g1, g2] at hC
        exact hC
  · rw [hlen] at hp hs
    have hfr : H D = none := I.hok.fresh hD
    have eo : outOf (zs.map fun z => Value.ref z.1) p = (pick ((0 : Addr), ([] : List Int)) zs p).map fun z => Value.ref z.1 := pick_map (0, []) Value.none (fun z : Addr × List Int => Value.ref z.1) zs hp
    have ep := pick_perm ((0 : Addr), ([] : List Int)) zs hp
    have rel : ∀ ys : List (Addr × List Int), Vals (ys.map fun z => V.ref z.1) (ys.map fun z => Value.ref z.1) := fun ys => by
      induction ys with
      | nil => exact .nil
      | cons y ys ih => exact .cons rfl ih
    have I2 : Inv X pins σ (upd H D (.lst ((pick ((0 : Addr), ([] : List Int)) zs p).map fun z => V.ref z.1))) { s with heap := h' } := by
      refine I.laid (t' := s.toks) kp hD ⟨by rw [List.length_map, ep.length_eq, PySem.sizeLine_eq]; omega, _, c, rel _, ?_⟩
      rw [hat, eo]
    refine ⟨.ref D, _, I2, rfl, q D _ _ hfr (same_upd hfr) upd_same ep ?_⟩
    refine List.pairwise_iff_getElem.mpr fun i j hi hj hij => ?_
    have hpl : (pick ((0 : Addr), ([] : List Int)) zs p).length = zs.length := ep.length_eq
    rw [pick_at, pick_at]
    have := Srt.all (n := zs.length) (by rw [hlen] at S; exact S) hs hij (by omega)
    have g : ∀ k, k < zs.length → (zs.map (·.2)).getD (at0 p k) [] = (zs.getD (at0 p k) (0, [])).2 := fun k hk => by
      have := hp.bd hk
      rw [List.getD_eq_getElem?_getD, List.getD_eq_getElem?_getD, List.getElem?_map, List.getElem?_eq_getElem this]; rfl
    rw [g i (by omega), g j (by omega)] at this
    exact this
end
theorem bo_sorted : bootBuiltins "sorted" = some (.builtin "sorted") := by decide +kernel
section
variable {X : Cx} {pos : Pos}
def tDNewS : TE := fun _ H Q => ∀ p H', H p = none → Same H H' → H' p = some (.dK []) → Q (.ref p) H'
theorem pe_dnewS : PE X (.Dict [] [] pos) tDNewS := fun pins s σ H Q I h => pe_dnewK pins s σ H Q I fun p hp => h p _ hp (same_upd hp) upd_same
end
section
variable {X : Cx} {o e : Expr} {to te : TE} {pos : Pos}
theorem PE.weak {e : Expr} {t t' : TE} (h : PE X e t) (m : ∀ σ H Q, t' σ H Q → t σ H Q) : PE X e t' := fun pins s σ H Q I q => h pins s σ H Q I (m σ H Q q)
def tAppend (to te : TE) : TE := fun σ H Q => to σ H fun x H1 => ∃ l, x = .ref l ∧ ∃ xs, H1 l = some (.lst xs) ∧ te σ H1 fun y H2 => ∃ ys, H2 l = some (.lst ys) ∧ ys.length < sizeLine ∧ Q .non (upd H2 l (.lst (ys ++ [y])))
end
theorem tup_upd {H : Hp} {p l : Addr} {xs : List V} {o u : HO} (h : H p = some (.tup xs)) (hl : H l = some o) (hm : ∀ ys, o ≠ .tup ys) : L2.upd H l u p = some (.tup xs) := by
  rw [upd_ne (ne_of h hl (Ne.symm (hm _)))]; exact h
section
variable {X : Cx} {o e : Expr} {to te : TE} {pos apos cpos : Pos}
def tMono (t : TE) : TE := fun σ H Q => ∃ P : VK, t σ H P ∧ ∀ v H', P v H' → Q v H'
theorem PE.mono {t : TE} (h : PE X e t) : PE X e (tMono t) := fun pins s σ H Q I ⟨P, h1, h2⟩ =>
  thn (h pins s σ H P I h1) fun u s1 ⟨v, H1, I1, r1, q1⟩ => ⟨v, H1, I1, r1, h2 v H1 q1⟩
theorem pe_append (ho : PE X o to) (he : PE X e te)
    (hbase : attributeBase o "append" X.env (eval o X.env) = eval o X.env := by rfl)
    (hfew : ((backTo cpos (starEach [e] X.env)).all (fun x => !x.1) && (backToKw cpos (keywordEach [] X.env)).all (fun x => x.1.isSome)
      && decide ([e].length + ([] : List Keyword).length + (if ([] : List Keyword).isEmpty then 0 else 1) < 30)) = true := by rfl)
    (hline : (apos.endLine == cpos.line) = true := by rfl) (hs : starEach [e] X.env = (false, eval e X.env) :: starEach [] X.env := by rfl) (hplain : (backTo cpos (starEach [] X.env)).any (·.1) = false := by rfl) :
    PE X (.Call (.Attribute o "append" apos) [e] [] cpos) (tAppend to te) :=
  PE.weak (pe_bm PySem.F.plainAttrs_list PySem.F.slot_list_append PySem.F.type_list_append mt_append ho.mono (pa_cons he.mono pa_nil hs) hbase hfew hline hs hplain) fun σ H Q h => by
    refine ⟨_, h, fun x H1 h1 => ?_⟩
    obtain ⟨l, rfl, xs, e1, h1⟩ := h1
    refine ⟨.inl ⟨rfl, xs, SqL.of e1⟩, _, h1, fun y H2 h2 => ?_⟩
    obtain ⟨ys, e2, hz, q⟩ := h2
    exact ⟨l, ys, y, rfl, rfl, e2, hz, q⟩
end
section
variable {X : Cx} {pos : Pos}
def tPar3 (i j k : Nat) (ta : TA) : TS := fun D σ H => ta σ H fun vs H1 => ∃ v w u, vs = [v, w, u] ∧ D.nx (((σ.set i (some v)).set j (some w)).set k (some u)) H1
end
section
variable {X : Cx}
def rEqT (K : PySem.W.Frag) : R2 := fun x y H Q => ∃ a b, x = .ref a ∧ y = .ref b ∧ ∃ ns : List Int, SqT K H a (ns.map V.int) ∧ ∃ ms : List Int, SqT K H b (ms.map V.int) ∧ Q (.bl (decide (ns = ms))) H
theorem all_eq_dec (ns ms : List Int) : ((List.range (min ns.length ms.length)).all (fun j => decide (ns[j]? = ms[j]?)) && ns.length == ms.length) = decide (ns = ms) := by
  rw [Bool.eq_iff_iff]
  simp only [Bool.and_eq_true, List.all_eq_true, List.mem_range, decide_eq_true_eq, beq_iff_eq]
  constructor
  · rintro ⟨h1, h2⟩
    refine List.ext_getElem? fun j => ?_
    by_cases hj : j < min ns.length ms.length
    · exact h1 j hj
    · rw [List.getElem?_eq_none (by omega), List.getElem?_eq_none (by omega)]
  · rintro rfl
    exact ⟨fun _ _ => rfl, rfl⟩
def rNeT (K : PySem.W.Frag) : R2 := fun x y H Q => ∃ a b, x = .ref a ∧ y = .ref b ∧ ∃ ns : List Int, SqT K H a (ns.map V.int) ∧ ∃ ms : List Int, SqT K H b (ms.map V.int) ∧ Q (.bl (!decide (ns = ms))) H
def rEqL0 (K : PySem.W.Frag) : R2 := fun x y H Q => ∃ a b, x = .ref a ∧ y = .ref b ∧ ∃ xs, SqL K H a xs ∧ SqL K H b [] ∧ Q (.bl (decide (xs = []))) H
theorem op_eqL0 (hu : X.A.units < cLine) : OpR X (compareOp .Eq) (rEqL0 X.K) := by
  intro pins s σ H x y v u Q I rx ry h
  obtain ⟨a, b, rfl, rfl, xs, h1, h2, q⟩ := h
  cases rx
  cases ry
  obtain ⟨i1, r1, t1, _⟩ := I.list h1
  obtain ⟨i2, r2, t2, _⟩ := I.list h2
  cases r2
  have l1 := r1.length
  by_cases e : xs = []
  · subst e
    cases r1
    rw [decide_eq_true rfl] at q
    exact SeqAt.eq_listAt (e := fun _ => true) t1.isList t2.isList rfl hu (fun j h1 h2 => absurd h1 (by simp)) ⟨.bl true, H, I, rfl, q⟩
  · rw [decide_eq_false e] at q
    refine SeqAt.eq_list_lengthsAt t1.isList t2.isList ?_ hu ⟨.bl false, H, I, rfl, q⟩
    have : i1.length ≠ 0 := by
      intro z
      rw [z] at l1
      exact e (List.eq_nil_of_length_eq_zero l1)
    simpa using this
theorem ix_tupK {K : PySem.W.Frag} (h : X.K = K) : IxR X (rIxT K) := h ▸ ix_tup
def rSlS (K : PySem.W.Frag) : V → Option Int → Option Int → Hp → VK → Prop := fun x lo hi H Q => ∃ a, x = .ref a ∧ ∃ xs, SqL K H a xs ∧ ∀ p H', H p = none → Same H H' → H' p = some (.lst (cutV xs lo hi)) → Q (.ref p) H'
theorem sl_listS : SlR X (rSlS X.K) := fun pins s σ H x v vl vu lo hi sl Q I rx hs pl pu ⟨a, e, xs, h, q⟩ => sl_list pins s σ H x v vl vu lo hi sl Q I rx hs pl pu ⟨a, xs, e, h, fun p hp => q p _ hp (same_upd hp) upd_same⟩
theorem cutV_from {xs : List V} {i : Nat} : cutV xs (some (i : Int)) none = xs.drop i := by
  unfold cutV
  rw [HT.sIx_nat, HT.sIx_none]
  by_cases h : i ≤ xs.length
  · rw [Nat.min_eq_left h, List.take_of_length_le (by rw [List.length_drop]; omega)]
  · rw [Nat.min_eq_right (by omega), Nat.sub_self, List.take_zero, List.drop_eq_nil_of_le (by omega)]
end
end L2
set_option Elab.async false
set_option linter.all false
set_option maxRecDepth 100000
set_option maxHeartbeats 4000000
namespace L2
open PySem PySem.Spec PyProof.Rows
section
variable {X : Cx} {pins : List (Addr × Obj)} {σ : St} {H : Hp} {s : Shared} {h' : Heap}
theorem Inv.turnedL {t' : Nat} {its : List Addr} (I : Inv X pins σ H s) (k : ∀ b o, b ∉ its → s.heap.get? b = some o → h'.get? b = some o) (hf : ∀ b ∈ its, FpOk X pins H b) : Inv X pins σ H { s with heap := h', toks := t' } := by
  have nit : ∀ b u, H b = some u → b ∉ its := fun b u e z => by rw [(hf b z).1] at e; cases e
  refine I.step (g' := s.gens) (d' := s.drawn) (ch := its) (fun b hb => ?_) (fun b o _ _ hc e _ => k b o hc e) (fun b o _ _ hc e _ => ⟨o.slots, k b o hc e⟩) (fun _ _ _ _ n => n)
    (fun b o hc e => ⟨o, k b o hc e⟩) (fun _ _ e => e) (fun _ _ _ e => e) (fun b ps e => ⟨#[], by rw [e]; simp⟩) (fun m hm => ?_) (fun b u e => ?_) I.bare
  · obtain ⟨f0, f1, f2, f3, f4, f5⟩ := hf b hb
    exact ⟨f3, f1, f4, f5⟩
  · obtain ⟨o, es, ep, ho, r⟩ := hm
    exact ⟨o, es, ep, k _ o (fun z => (hf _ z).2.1 rfl) ho, r⟩
  · refine (I.hok b u e).stay (fun c v hc q => k c v ?_ q) (fun _ q => q) fun _ _ q => q
    rcases hc with z | z
    · rw [z]; exact nit b u e
    · exact nit c _ z
end
def Ite (K : PySem.W.Frag) (a : Addr) : It :=
  ⟨fun i H => ∃ xs x, SqL K H a xs ∧ xs[i]? = some x, fun i H x H' => ∃ p y, x = .ref p ∧ H p = none ∧ H' = upd H p (.tup [.int (i : Int), y]) ∧ ∀ xs, SqL K H a xs → xs[i]? = some y, fun i H => ∃ xs, SqL K H a xs ∧ xs.length ≤ i⟩
theorem turn_enum {P : Program} {w : World} {K : PySem.W.Frag} {elts : List Expr} {k : Nat} {tp : Pos} (a e it : Addr) (hei : e ≠ it) :
    Turn P w K (.Tuple elts k tp) (Ite K a) [e, it] e (fun i h => (∃ old, IsEnum h e it (i : Int) old) ∧ h.IsListIter it a i) where
  mem := by simp
  obj := fun i h st b hb => by
    obtain ⟨⟨old, he⟩, hit⟩ := st
    rcases List.mem_cons.mp hb with z | z
    · subst z
      exact ⟨_, he, fun v z => by
        have z' : Data.fields _ = Data.cell v := z
        cases z'⟩
    · have z := List.mem_singleton.mp z
      subst z
      obtain ⟨o, e, c, d⟩ := hit
      exact ⟨o, e, fun v z => by rw [d] at z; cases z⟩
  keep := fun i h h' st k => ⟨⟨_, k e (by simp) _ st.1.choose_spec⟩, st.2.at fun o x => k it (by simp) o x⟩
  item := by
    intro X hP hw hK hc i pins s σ H E I hf st hg
    subst hP hw hK
    obtain ⟨xs, x, hq, hx⟩ := hg
    obtain ⟨its, rv, p, hz⟩ := I.list hq
    obtain ⟨u, hu, ru⟩ := rv.get hx
    obtain ⟨⟨old, he⟩, hit⟩ := st
    have helt : e < s.heap.objs.size := Heap.lt_size he
    have hilt : it < s.heap.objs.size := by obtain ⟨_, x, _⟩ := hit; exact Heap.lt_size x
    refine wpAny_pyNext_enum_item he hit p.isList (x := u) (by simpa using hu) hei fun h' ho hit' hT hsz hk => ?_
    refine ⟨_, rfl, wpAny_letOwnedTupleGo_enum (s := { s with heap := h', toks := s.toks + 1 }) ho fun h2 he2 hs2 => ?_⟩
    have I1 : Inv X pins σ (upd H s.heap.objs.size (.tup [.int (i : Int), x])) { s with heap := s.heap.push { cls := .type "tuple", data := .seq #[.int (i : Int) s.toks, u] }, toks := s.toks + 1 } :=
      I.laid (fun b o e => Heap.get?_push_of_some _ e) (Nat.le_refl _) ⟨by rw [PySem.sizeLine_eq]; show 2 ≤ _; omega, [.int (i : Int) s.toks, u], .cons ⟨_, rfl⟩ (.cons ru .nil), IsTup.new s.heap _⟩
    have hfr : ∀ b ∈ [e, it], upd H s.heap.objs.size (.tup [.int (i : Int), x]) b = none := fun b hb => by
      have hlt : b < s.heap.objs.size := by
        rcases List.mem_cons.mp hb with z | z
        · rw [z]; exact helt
        · rw [List.mem_singleton.mp z]; exact hilt
      rw [upd_ne (Nat.ne_of_lt hlt)]
      exact (hf b hb).1
    refine ⟨.ref s.heap.objs.size, upd H s.heap.objs.size (.tup [.int (i : Int), x]), ?_, rfl, ⟨_, x, rfl, I.fresh, rfl, fun ys hy => by rw [I.list_inj hy hq]; exact hx⟩, ⟨⟨_, by simpa using he2⟩, hit'.at fun o y => (hs2.2 it (Ne.symm hei)).trans y⟩, hfr⟩
    refine (show Inv X pins σ (upd H s.heap.objs.size (.tup [.int (i : Int), x])) { ({ s with heap := s.heap.push { cls := .type "tuple", data := .seq #[.int (i : Int) s.toks, u] }, toks := s.toks + 1 } : Shared) with heap := h2, toks := s.toks + 1 } from ?_)
    refine Inv.turnedL (its := [e, it]) I1 (fun b o hb eb => ?_) fun b hb => ⟨hfr b hb, (hf b hb).2⟩
    have hbe : b ≠ e := fun z => hb (by simp [z])
    have hbi : b ≠ it := fun z => hb (by simp [z])
    refine (hs2.2 b hbe).trans ?_
    by_cases hbs : b = s.heap.objs.size
    · subst hbs
      have : (s.heap.push { cls := .type "tuple", data := .seq #[.int (i : Int) s.toks, u] }).get? s.heap.objs.size = some { cls := .type "tuple", data := .seq #[.int (i : Int) s.toks, u] } := Heap.get?_push_size _ rfl
      have eb := this.symm.trans eb
      rw [← eb]
      exact hT
    · exact hk b o hbe hbi ((Heap.get?_push_ne _ _ _ hbs).symm.trans eb)
  done := by
    intro X hP hw hK hc i pins s σ H E I hf st hg
    subst hP hw hK
    obtain ⟨xs, hq, hx⟩ := hg
    obtain ⟨its, rv, p, hz⟩ := I.list hq
    have hl := rv.length
    obtain ⟨⟨old, he⟩, hit⟩ := st
    refine wpAny_pyNext_enum_end (I.ok.hd hc) he hit p.isList (Array.getElem?_eq_none (by simp; omega)) fun h' eb => ⟨rfl, ?_⟩
    obtain ⟨f0, f1, f2, f3, f4, f5⟩ := hf it (by simp)
    exact I.turned (t' := s.toks) (fun b o hb e => eb b o hb e) f0 f1 f3 f4 f5
  self := fun _ _ _ _ _ st h => by
    obtain ⟨⟨old, he⟩, _⟩ := st
    exact wpAny_pyIter_enum he h
section
variable {X : Cx}
def iEnum (K : PySem.W.Frag) (ta : TA) : TI := fun σ H R => ta σ H fun vs H1 => ∃ a, vs = [.ref a] ∧ (∃ xs, SqL K H1 a xs) ∧ R (Ite K a) H1
theorem pi_enum {l : Expr} {ta : TA} {p pos tp : Pos} {elts : List Expr} {k : Nat} (hg : Gl X "enumerate") (hm : X.mg "enumerate" = none) (ha : PA X [l] ta) (hs : starEach [l] X.env = [(false, eval l X.env)] := by rfl) :
    PI X (.Tuple elts k tp) (.Call (.Name "enumerate" p) [l] [] pos) (iEnum X.K ta) := by
  intro pins s σ H R I h
  refine Call_ (ld_blt I hg hm boot_enumerate (PyProof.Rows.callWith_type1 (thn (ha pos pins s σ H _ I h) fun us s1 ⟨vs, H1, I1, r1, q1⟩ => ?_) hs rfl))
  obtain ⟨a, e, ⟨xs, hq⟩, q⟩ := q1
  subst e
  cases r1 with
  | cons r rr =>
    cases rr
    cases r
    obtain ⟨its, rv, pl, hz⟩ := I1.list hq
    refine call_enumerate_list pl.isList fun h' he hit hsz hk => ?_
    have I2 : Inv X pins σ H1 { s1 with heap := h' } := I1.kept (t' := s1.toks) hk
    refine wpAny_pyIter_enum he ?_
    refine ⟨_, [s1.heap.objs.size + 1, s1.heap.objs.size], _, _, H1, rfl, I2, turn_enum a _ _ (Nat.succ_ne_self _), ⟨⟨_, by simpa using he⟩, hit⟩, fun b hb => ?_, q⟩
    have hb' : s1.heap.objs.size ≤ b := by
      rcases List.mem_cons.mp hb with z | z
      · rw [z]; exact Nat.le_succ _
      · rw [List.mem_singleton.mp z]; exact Nat.le_refl _
    exact I1.fpOk hb' (I1.hok.fresh hb')
theorem bo_all : bootBuiltins "all" = some (.builtin "all") := by decide +kernel
def rAll (K : PySem.W.Frag) : List V → Hp → VK → Prop := fun xs H Q => ∃ a, xs = [.ref a] ∧ ∃ ys : List Bool, SqL K H a (ys.map V.bl) ∧ Q (.bl (ys.all id)) H
theorem call_all (hc : X.calm = true) : CallR X (.builtin "all") (rAll X.K) := by
  intro pins s σ H xs us Q I r h
  obtain ⟨a, rfl, ys, hq, q⟩ := h
  obtain ⟨u, rfl, rx⟩ := vals1 r
  cases rx
  obtain ⟨its, r', pl, hz⟩ := I.list hq
  have hlen := r'.length
  rw [List.length_map] at hlen
  have hlt : a < s.heap.objs.size := by obtain ⟨o, n, e, _⟩ := id pl; exact Heap.lt_size e
  refine call_all_walk (wpAny_pyIter_list pl.isList ?_)
  refine ⟨s.heap.objs.size, _, _, _, _, _, fun i => ys.getD i true, rfl, Walks.list (A := X.A.in1) (I.ok.hd hc) _ a (Nat.ne_of_lt hlt) its.toArray, ⟨⟨_, Heap.get?_push_size _ rfl, rfl, rfl⟩, pl.isList.at fun o e => Heap.get?_push_of_some _ e⟩, ?_, fun h' tk hk => ?_⟩
  · intro i v s Q E hP hQ
    have hv : its[i]? = some v := by simpa using hP
    obtain ⟨hi, _⟩ := List.getElem?_eq_some_iff.mp hv
    obtain ⟨u, e1, e2⟩ := r'.get (i := i) (x := V.bl (ys.getD i true)) (by rw [List.getElem?_map, List.getElem?_eq_getElem (by omega), List.getD_eq_getElem?_getD, List.getElem?_eq_getElem (by omega)]; rfl)
    have e3 : v = u := Option.some.inj (hv.symm.trans e1)
    have e2 : u = Value.bool (ys.getD i true) := e2
    rw [e3, e2]
    exact wpAny_truthy_bool hQ
  · have I2 : Inv X pins σ H { s with heap := h', toks := tk } := I.kept fun b o e => hk b o (fun z => by
      rw [List.mem_singleton.mp z] at e
      exact absurd (Heap.lt_size e) (Nat.lt_irrefl _)) (Heap.get?_push_of_some _ e)
    refine ⟨.bl (ys.all id), H, I2, ?_, q⟩
    show Value.bool _ = Value.bool _
    congr 1
    rw [show its.toArray.size = ys.length by simp [hlen], Bool.eq_iff_iff]
    simp only [List.all_eq_true, List.mem_range, id]
    constructor
    · intro hh b hb
      obtain ⟨i, hi, rfl⟩ := List.getElem_of_mem hb
      have := hh i hi
      rwa [List.getD_eq_getElem?_getD, List.getElem?_eq_getElem hi] at this
    · intro hh i hi
      rw [List.getD_eq_getElem?_getD, List.getElem?_eq_getElem hi]
      exact hh _ (List.getElem_mem hi)
end
theorem for_enum {K : PySem.W.Frag} {a : Addr} {xs : List V} {g : TG} {tb : TS} {D : Ends} {σ : St} {H : Hp} (Pv : Nat → St → Hp → Prop) (h0 : Pv 0 σ H) (hl : ∀ i σ H, i ≤ xs.length → Pv i σ H → SqL K H a xs)
    (hs : ∀ i x σ H p H', xs[i]? = some x → Pv i σ H → H p = none → Same H H' → H' p = some (.tup [.int (i : Int), x]) → g (.ref p) σ H' fun σ2 H2 => tb { D with nx := Pv (i + 1), ct := Pv (i + 1), bk := D.nx } σ2 H2) (hd : ∀ σ H, Pv xs.length σ H → D.nx σ H) :
    ∃ W : Nat → Nat → St → Hp → Prop, (∃ m, W 0 m σ H) ∧ ∀ i m σ H, W i m σ H →
      ((Ite K a).stop i H ∧ D.nx σ H) ∨ ((Ite K a).go i H ∧ ∃ N : St → Hp → Prop, (∀ σ' H', N σ' H' → ∃ m', m' < m ∧ W (i + 1) m' σ' H') ∧ ∀ x H', (Ite K a).yld i H x H' → g x σ H' fun σ2 H2 => tb { D with nx := N, ct := N, bk := D.nx } σ2 H2) := by
  refine ⟨fun i m σ H => m = xs.length - i ∧ i ≤ xs.length ∧ Pv i σ H, ⟨xs.length, by simp, Nat.zero_le _, h0⟩, ?_⟩
  rintro i m σ H ⟨rfl, hi, p⟩
  have q := hl i σ H hi p
  by_cases hlt : i < xs.length
  · refine .inr ⟨⟨xs, xs[i], q, by simp [hlt]⟩, Pv (i + 1), fun σ' H' p' => ⟨xs.length - (i + 1), by omega, rfl, hlt, p'⟩, fun x H' y => ?_⟩
    obtain ⟨pp, z, rfl, hn, rfl, y⟩ := y
    exact hs i z σ _ _ _ (y xs q) p hn (same_upd hn) upd_same
  · have e : i = xs.length := by omega
    subst e
    exact .inl ⟨⟨xs, q, Nat.le_refl _⟩, hd σ H p⟩
end L2
set_option Elab.async false
set_option linter.all false
set_option maxRecDepth 100000
set_option maxHeartbeats 4000000
namespace TG
open PySem L2
theorem gcd_fmod {d r : Int} (hd : 0 ≤ d) (hr : 0 < r) : Int.gcd r (d.fmod r) = Int.gcd d r := by
  rw [Int.fmod_eq_emod_of_nonneg d (Int.le_of_lt hr)]
  obtain ⟨n, rfl⟩ := Int.eq_ofNat_of_zero_le hd
  obtain ⟨m, rfl⟩ := Int.eq_ofNat_of_zero_le (Int.le_of_lt hr)
  show Nat.gcd m (((n % m : Nat) : Int)).natAbs = Nat.gcd n m
  rw [Int.natAbs_natCast, Nat.gcd_comm n m, Nat.gcd_rec m n, Nat.gcd_comm]
theorem fmod_lt {d r : Int} (hr : 0 < r) : 0 ≤ d.fmod r ∧ d.fmod r < r := ⟨Int.fmod_nonneg_of_pos d hr, Int.fmod_lt_of_pos d hr⟩
theorem gcd_zero' {d : Int} (hd : 0 ≤ d) : ((Int.gcd d 0 : Nat) : Int) = d := by
  rw [Int.gcd_zero_right]; omega
structure LowT (t b x y : Int) : Prop where
  ex : ∃ g : Int, g ≠ 0 ∧ t = g * x ∧ b = g * y
  pos : 0 < y
  one : Int.gcd x y = 1
theorem LowT.eq {t b x y : Int} (h : LowT t b x y) : t * y = b * x := by
  obtain ⟨g, _, rfl, rfl⟩ := h.ex
  rw [Int.mul_assoc, Int.mul_assoc, Int.mul_comm x y]
theorem abs_le_of_mul {g x : Int} (hg : g ≠ 0) : x.natAbs ≤ (g * x).natAbs := by
  rw [Int.natAbs_mul]
  exact Nat.le_mul_of_pos_left _ (by omega)
theorem LowT.absx {t b x y : Int} (h : LowT t b x y) : x.natAbs ≤ t.natAbs := by
  obtain ⟨g, hg, rfl, rfl⟩ := h.ex
  exact abs_le_of_mul hg
theorem LowT.absy {t b x y : Int} (h : LowT t b x y) : y.natAbs ≤ b.natAbs := by
  obtain ⟨g, hg, rfl, rfl⟩ := h.ex
  exact abs_le_of_mul hg
theorem gcd_abs (t b : Int) : Int.gcd (if t < 0 then -t else t) (if b < 0 then -b else b) = Int.gcd t b := by
  split <;> split <;> simp [Int.gcd_neg, Int.neg_gcd]
theorem low_of {t b : Int} (hb : b ≠ 0) {d : Int} (hd : d = if b < 0 then -((Int.gcd t b : Nat) : Int) else ((Int.gcd t b : Nat) : Int)) : LowT t b (t.fdiv d) (b.fdiv d) ∧ d ≠ 0 := by
  have hg : 0 < Int.gcd t b := Int.gcd_pos_of_ne_zero_right t hb
  have hd0 : d ≠ 0 := by rw [hd]; split <;> omega
  have habs : d.natAbs = Int.gcd t b := by rw [hd]; split <;> omega
  have h1 : d ∣ t := by
    rw [← Int.natAbs_dvd, habs]; exact Int.gcd_dvd_left ..
  have h2 : d ∣ b := by
    rw [← Int.natAbs_dvd, habs]; exact Int.gcd_dvd_right ..
  obtain ⟨x, hx⟩ := h1
  obtain ⟨y, hy⟩ := h2
  have ex : t.fdiv d = x := by rw [hx, Int.mul_fdiv_cancel_left _ hd0]
  have ey : b.fdiv d = y := by rw [hy, Int.mul_fdiv_cancel_left _ hd0]
  rw [ex, ey]
  refine ⟨⟨⟨d, hd0, hx, hy⟩, ?_, ?_⟩, hd0⟩
  · rcases Int.lt_trichotomy y 0 with h | h | h
    · exfalso
      by_cases hbn : b < 0
      · rw [if_pos hbn] at hd
        have : 0 < d * y := Int.mul_pos_of_neg_of_neg (by omega) h
        omega
      · rw [if_neg hbn] at hd
        have : d * y < 0 := Int.mul_neg_of_pos_of_neg (by omega) h
        omega
    · rw [h, Int.mul_zero] at hy; exact absurd hy hb
    · exact h
  · have e : Int.gcd t b = d.natAbs * Int.gcd x y := by
      conv => lhs; rw [hx, hy]
      exact Int.gcd_mul_left ..
    rw [habs] at e
    have e2 : Int.gcd t b * 1 = Int.gcd t b * Int.gcd x y := by rw [Nat.mul_one]; exact e
    exact (Nat.eq_of_mul_eq_mul_left hg e2).symm
theorem gcd_absl (x y : Int) : Int.gcd (if x < 0 then -x else x) y = Int.gcd x y := by
  split <;> simp [Int.neg_gcd]
theorem frac_le {t u x y f : Int} (hy : 0 < y) (hu : 0 < u) (E : t * y = u * x) : f * y ≤ x ↔ f * u ≤ t := by
  constructor
  · intro h
    have h1 := Int.mul_le_mul_of_nonneg_left h (Int.le_of_lt hu)
    rw [← E] at h1
    have h2 : (f * u) * y ≤ t * y := by
      have e : (f * u) * y = u * (f * y) := by grind
      rw [e]; exact h1
    exact Int.le_of_mul_le_mul_right h2 hy
  · intro h
    have h1 := Int.mul_le_mul_of_nonneg_right h (Int.le_of_lt hy)
    rw [E] at h1
    have h2 : u * (f * y) ≤ u * x := by
      have e : u * (f * y) = (f * u) * y := by grind
      rw [e]; exact h1
    exact Int.le_of_mul_le_mul_left h2 hu
theorem frac_ge {t u x y f : Int} (hy : 0 < y) (hu : 0 < u) (E : t * y = u * x) : x ≤ f * y ↔ t ≤ f * u := by
  constructor
  · intro h
    have h1 := Int.mul_le_mul_of_nonneg_left h (Int.le_of_lt hu)
    rw [← E] at h1
    have h2 : t * y ≤ (f * u) * y := by
      have e : (f * u) * y = u * (f * y) := by grind
      rw [e]; exact h1
    exact Int.le_of_mul_le_mul_right h2 hy
  · intro h
    have h1 := Int.mul_le_mul_of_nonneg_right h (Int.le_of_lt hy)
    rw [E] at h1
    have h2 : u * x ≤ u * (f * y) := by
      have e : u * (f * y) = (f * u) * y := by grind
      rw [e]; exact h1
    exact Int.le_of_mul_le_mul_left h2 hu
structure G where
  p : Int
  f : Int
  h : Int
abbrev G.vs (g : G) : List V := [.int g.p, .int g.f, .int g.h]
structure OkG (g : G) : Prop where
  p0 : -1000 ≤ g.p
  p1 : g.p ≤ 1000
  f0 : -1000 ≤ g.f
  fh : g.f ≤ g.h
  h1 : g.h ≤ 1000
def GsAt (H : Hp) (as : List Addr) (gs : List G) : Prop := Paired (fun a g => H a = some (.tup (G.vs g))) as gs
theorem GsAt.same {H H' : Hp} {as : List Addr} {gs : List G} (h : GsAt H as gs) (s : Same H H') : GsAt H' as gs := by
  unfold GsAt at *
  induction h with
  | nil => exact .nil
  | cons e _ ih => exact .cons (s _ _ e) ih
theorem GsAt.upd {H : Hp} {l : Addr} {o u : HO} {as : List Addr} {gs : List G} (h : GsAt H as gs) (hl : H l = some o) (hm : ∀ ys, o ≠ .tup ys) : GsAt (L2.upd H l u) as gs := by
  unfold GsAt at *
  induction h with
  | nil => exact .nil
  | cons e _ ih => exact .cons (tup_upd e hl hm) ih
theorem GsAt.snoc {H : Hp} {as : List Addr} {gs : List G} {a : Addr} {g : G} (h : GsAt H as gs) (e : H a = some (.tup (G.vs g))) : GsAt H (as ++ [a]) (gs ++ [g]) := Paired.snoc h e
theorem GsAt.len {H : Hp} {as : List Addr} {gs : List G} (h : GsAt H as gs) : as.length = gs.length := Paired.length h
theorem atI_ints {xs : List Int} {i : Int} (h0 : 0 ≤ i) (h1 : i < xs.length) : atI (xs.map V.int) i = some (V.int (xs.getD i.toNat 0)) := by
  obtain ⟨n, rfl⟩ := Int.eq_ofNat_of_zero_le h0
  have hn : n < xs.length := by omega
  refine atI_nat ?_
  rw [List.getElem?_map, List.getElem?_eq_getElem hn, Int.toNat_natCast, List.getD_eq_getElem?_getD, List.getElem?_eq_getElem hn]; rfl
theorem nodup_sub_len {α : Type} [DecidableEq α] : ∀ {xs ys : List α}, xs.Nodup → (∀ x ∈ xs, x ∈ ys) → xs.length ≤ ys.length
  | [], _, _, _ => Nat.zero_le _
  | x :: xs, ys, hn, hs => by
    obtain ⟨h1, h2⟩ := List.nodup_cons.mp hn
    have hx := hs x List.mem_cons_self
    have ih := nodup_sub_len (ys := ys.erase x) h2 fun y hy => (List.mem_erase_of_ne (fun (e : y = x) => h1 (by rw [← e]; exact hy))).mpr (hs y (List.mem_cons_of_mem _ hy))
    have := List.length_erase_of_mem hx
    have hp : 0 < ys.length := List.length_pos_of_mem hx
    rw [List.length_cons]
    omega
theorem circle_free {near span o : Int} {used : List Int} (hk : (used.length : Int) < span) (h : ∀ t : Nat, t ≤ used.length → near + (o + t) % span ∈ used) : False := by
  have hnd : ((List.range (used.length + 1)).map fun t : Nat => near + (o + t) % span).Nodup := by
    refine List.pairwise_iff_getElem.mpr fun a b ha hb hab => ?_
    rw [List.length_map, List.length_range] at ha hb
    rw [List.getElem_map, List.getElem_map, List.getElem_range, List.getElem_range]
    intro e
    have e1 : (o + (a : Int)) % span = (o + (b : Int)) % span := by omega
    have e2 := Int.emod_emod_of_dvd (o + (b : Int)) (Int.dvd_refl span)
    have d : span ∣ (o + (b : Int)) - (o + (a : Int)) := Int.dvd_of_emod_eq_zero (Int.emod_eq_emod_iff_emod_sub_eq_zero.mp e1.symm)
    have e3 : (o + (b : Int)) - (o + (a : Int)) = (b : Int) - a := by omega
    rw [e3] at d
    have := Int.le_of_dvd (by omega) d
    omega
  have hl := nodup_sub_len (ys := used) hnd fun x hx => by
    obtain ⟨t, ht, rfl⟩ := List.mem_map.mp hx
    exact h t (by have := List.mem_range.mp ht; omega)
  rw [List.length_map, List.length_range] at hl
  omega
def FootBar (a b c : G) : Prop := a.h * (c.p - b.p) + c.h * (b.p - a.p) < b.f * (c.p - a.p)
def HeadBar (a b c : G) : Prop := b.h * (c.p - a.p) < a.f * (c.p - b.p) + c.f * (b.p - a.p)
instance (a b c : G) : Decidable (FootBar a b c) := by unfold FootBar; exact inferInstance
instance (a b c : G) : Decidable (HeadBar a b c) := by unfold HeadBar; exact inferInstance
def Bars (a b c : G) : Prop := FootBar a b c ∨ HeadBar a b c
instance (a b c : G) : Decidable (Bars a b c) := by unfold Bars; exact inferInstance
def barT (a b c : G) : Str := if FootBar a b c then "foot" else if HeadBar a b c then "head" else ""
theorem GsAt.zip {H : Hp} {as : List Addr} {gs : List G} (h : GsAt H as gs) : ∃ zs : List (Addr × List Int), as = zs.map (·.1) ∧ zs.map (·.2) = gs.map (fun g => [g.p, g.f, g.h]) ∧ ∀ z ∈ zs, z.2 ≠ [] ∧ H z.1 = some (.tup (z.2.map V.int)) := by
  unfold GsAt at h
  induction h with
  | nil => exact ⟨[], rfl, rfl, fun _ h => absurd h (by simp)⟩
  | @cons a g as gs e _ ih =>
    obtain ⟨zs, h1, h2, h3⟩ := ih
    refine ⟨(a, [g.p, g.f, g.h]) :: zs, by rw [h1]; rfl, by rw [List.map_cons, h2]; rfl, fun z hz => ?_⟩
    rcases List.mem_cons.mp hz with rfl | hz
    · exact ⟨by simp, e⟩
    · exact h3 z hz
theorem GsAt.of_zip {H : Hp} : ∀ {zs : List (Addr × List Int)} {gs : List G}, zs.map (·.2) = gs.map (fun g => [g.p, g.f, g.h]) → (∀ z ∈ zs, H z.1 = some (.tup (z.2.map V.int))) → GsAt H (zs.map (·.1)) gs
  | [], [], _, _ => .nil
  | [], _ :: _, e, _ => by cases e
  | _ :: _, [], e, _ => by cases e
  | z :: zs, g :: gs, e, h => by
    rw [List.map_cons, List.map_cons, List.cons.injEq] at e
    refine .cons ?_ (GsAt.of_zip e.2 fun y hy => h y (List.mem_cons_of_mem _ hy))
    have := h z List.mem_cons_self
    rw [e.1] at this
    exact this
def toG (t : List Int) : G := ⟨t.getD 0 0, t.getD 1 0, t.getD 2 0⟩
theorem toG_map (gs : List G) : (gs.map fun g => [g.p, g.f, g.h]).map toG = gs := by
  rw [List.map_map]
  have : (toG ∘ fun g : G => [g.p, g.f, g.h]) = id := by funext g; rfl
  rw [this, List.map_id]
theorem lex_p {g g' : G} (hne : g.p ≠ g'.p) (h : HT.lexLt [g.p, g.f, g.h] [g'.p, g'.f, g'.h] = true) : g.p < g'.p := by
  rw [HT.lexLt_cons, if_neg hne] at h
  exact of_decide_eq_true h
def Asc (gs : List G) : Prop := gs.Pairwise fun a b => a.p < b.p
section
variable {X : Cx}
def rSortG (K : PySem.W.Frag) : List V → Hp → VK → Prop := fun xs H Q => ∃ l, xs = [.ref l] ∧ ∃ (as : List Addr) (gs : List G), SqL K H l (as.map V.ref) ∧ GsAt H as gs ∧ (gs.map G.p).Nodup ∧ gs.length < 64 ∧
  ∀ (D : Addr) (H' : Hp) (as' : List Addr) (gs' : List G), H D = none → Same H H' → H' D = some (.lst (as'.map V.ref)) → GsAt H' as' gs' → gs'.Perm gs → Asc gs' → Q (.ref D) H'
theorem call_sortedG : CallR X (.builtin "sorted") (rSortG X.K) := call_sortedT.weak fun xs H Q ⟨l, e, as, gs, hl, ga, nd, h64, q⟩ => by
  obtain ⟨zs, h1, h2, h3⟩ := ga.zip
  have hlen : zs.length = gs.length := by
    have := congrArg List.length h2
    simpa using this
  refine ⟨l, e, zs, ?_, fun z hz => ⟨(h3 z hz).1, SqT.of (h3 z hz).2⟩, ?_, by omega, fun D H' zs' hD hs hat hp hsrt => ?_⟩
  · rw [h1, List.map_map] at hl
    exact hl
  · rw [h2]
    refine List.pairwise_map.mpr ((List.pairwise_map.mp nd).imp fun {a b} h z => h ?_)
    simp at z
    exact z.1
  · have hm : (zs'.map (·.2)).Perm (gs.map fun g => [g.p, g.f, g.h]) := by rw [← h2]; exact hp.map _
    have hg : ((zs'.map (·.2)).map toG).Perm gs := by
      have := hm.map toG
      rw [toG_map] at this
      exact this
    have hback : zs'.map (·.2) = ((zs'.map (·.2)).map toG).map fun g => [g.p, g.f, g.h] := by
      rw [List.map_map]
      conv => lhs; rw [← List.map_id (zs'.map (·.2))]
      refine List.map_congr_left fun t ht => ?_
      obtain ⟨g, _, rfl⟩ := List.mem_map.mp (hm.mem_iff.mp ht)
      rfl
    refine q D H' (zs'.map (·.1)) ((zs'.map (·.2)).map toG) hD hs ?_ ?_ hg ?_
    · rw [hat, List.map_map]; rfl
    · exact GsAt.of_zip hback fun z hz => hs.get (h3 z (hp.mem_iff.mp hz)).2
    · have ndp : ((((zs'.map (·.2)).map toG)).map G.p).Nodup := ((hg.map G.p).nodup_iff).mpr nd
      have hsr : (((zs'.map (·.2)).map toG)).Pairwise fun a b => HT.lexLt [a.p, a.f, a.h] [b.p, b.f, b.h] = true := by
        have : ((((zs'.map (·.2)).map toG)).map fun g : G => [g.p, g.f, g.h]).Pairwise fun a b => HT.lexLt a b = true := by
          rw [← hback]
          exact List.pairwise_map.mpr hsrt
        exact List.pairwise_map.mp this
      have hne := List.pairwise_map.mp ndp
      exact (hsr.and hne).imp fun {a b} h => lex_p h.2 h.1
end
def BarsAt (sg : List G) (i j k : Nat) : Prop := i < j ∧ j < k ∧ ∃ a b c, sg[i]? = some a ∧ sg[j]? = some b ∧ sg[k]? = some c ∧ Bars a b c
def NoBar (sg : List G) : Prop := ∀ i j k, ¬ BarsAt sg i j k
def NoneAhead (sg : List G) (i j k : Nat) : Prop := ∀ i' j' k', BarsAt sg i' j' k' → i < i' ∨ (i = i' ∧ (j < j' ∨ (j = j' ∧ k ≤ k')))
def FirstAt (sg : List G) (i j k : Nat) : Prop := BarsAt sg i j k ∧ NoneAhead sg i j k
theorem FirstAt.uniq {sg : List G} {i j k i' j' k' : Nat} (h : FirstAt sg i j k) (h' : FirstAt sg i' j' k') : i = i' ∧ j = j' ∧ k = k' := by
  have a := h.2 _ _ _ h'.1
  have b := h'.2 _ _ _ h.1
  omega
inductive FirstT (gs : List G) (t : List Int) : Prop where
  | no (sg : List G) (hp : sg.Perm gs) (ha : Asc sg) (hn : NoBar sg) (ht : t = [])
  | yes (sg : List G) (hp : sg.Perm gs) (ha : Asc sg) (i j k : Nat) (a b c : G) (hf : FirstAt sg i j k) (h1 : sg[i]? = some a) (h2 : sg[j]? = some b) (h3 : sg[k]? = some c) (ht : t = [a.p, b.p, c.p])
theorem asc_perm_eq : ∀ {xs ys : List G}, Asc xs → Asc ys → xs.Perm ys → xs = ys
  | [], ys, _, _, h => (List.nil_perm.mp h).symm
  | x :: xs, [], _, _, h => absurd h (by intro z; have := z.length_eq; simp at this)
  | x :: xs, y :: ys, h1, h2, h => by
    obtain ⟨a1, a2⟩ := List.pairwise_cons.mp h1
    obtain ⟨b1, b2⟩ := List.pairwise_cons.mp h2
    have e : x = y := by
      have hx : x ∈ y :: ys := h.mem_iff.mp List.mem_cons_self
      have hy : y ∈ x :: xs := h.mem_iff.mpr List.mem_cons_self
      rcases List.mem_cons.mp hx with e | hx
      · exact e
      · rcases List.mem_cons.mp hy with e | hy
        · exact e.symm
        · have := a1 y hy
          have := b1 x hx
          omega
    subst e
    rw [asc_perm_eq a2 b2 ((List.perm_cons x).mp h)]
theorem FirstT.uniq {gs : List G} {t t' : List Int} (h : FirstT gs t) (h' : FirstT gs t') : t = t' := by
  cases h with
  | no sg hp ha hn ht =>
    cases h' with
    | no sg' hp' ha' hn' ht' => rw [ht, ht']
    | yes sg' hp' ha' i j k a b c hf h1 h2 h3 ht' =>
      have e := asc_perm_eq ha ha' (hp.trans hp'.symm)
      subst e
      exact absurd hf.1 (hn i j k)
  | yes sg hp ha i j k a b c hf h1 h2 h3 ht =>
    cases h' with
    | no sg' hp' ha' hn' ht' =>
      have e := asc_perm_eq ha ha' (hp.trans hp'.symm)
      subst e
      exact absurd hf.1 (hn' i j k)
    | yes sg' hp' ha' i' j' k' a' b' c' hf' h1' h2' h3' ht' =>
      have e := asc_perm_eq ha ha' (hp.trans hp'.symm)
      subst e
      obtain ⟨e1, e2, e3⟩ := hf.uniq hf'
      subst e1 e2 e3
      rw [h1] at h1'; rw [h2] at h2'; rw [h3] at h3'
      cases h1'; cases h2'; cases h3'
      rw [ht, ht']
theorem FirstT.perm {gs gs' : List G} {t : List Int} (h : FirstT gs t) (hp : gs.Perm gs') : FirstT gs' t := by
  cases h with
  | no sg hp' ha hn ht => exact .no sg (hp'.trans hp) ha hn ht
  | yes sg hp' ha i j k a b c hf h1 h2 h3 ht => exact .yes sg (hp'.trans hp) ha i j k a b c hf h1 h2 h3 ht
theorem GsAt.get {H : Hp} {as : List Addr} {gs : List G} (h : GsAt H as gs) {i : Nat} {g : G} (hg : gs[i]? = some g) : ∃ a, as[i]? = some a ∧ H a = some (.tup (G.vs g)) := by
  unfold GsAt at h
  induction h generalizing i with
  | nil => simp at hg
  | cons e _ ih =>
    cases i with
    | zero => simp at hg; subst hg; exact ⟨_, rfl, e⟩
    | succ i => exact ih (by simpa using hg)
theorem atI_refs {as : List Addr} {i : Nat} {a : Addr} (h : as[i]? = some a) : atI (as.map V.ref) (i : Int) = some (V.ref a) := atI_nat (by rw [List.getElem?_map, h]; rfl)
theorem BarsAt.lt {sg : List G} {i j k : Nat} (h : BarsAt sg i j k) : k < sg.length := by
  obtain ⟨_, _, a, b, c, _, _, h3, _⟩ := h
  exact (List.getElem?_eq_some_iff.mp h3).1
theorem na_start (sg : List G) : NoneAhead sg 0 0 0 := fun i j k h => by
  have := h.1
  omega
theorem na_mid {sg : List G} {i : Nat} (h : NoneAhead sg i 0 0) : NoneAhead sg i (i + 1) 0 := fun i' j' k' hb => by
  have h1 := h _ _ _ hb
  have h2 := hb.1
  omega
theorem na_in {sg : List G} {i j : Nat} (h : NoneAhead sg i j 0) : NoneAhead sg i j (j + 1) := fun i' j' k' hb => by
  have h1 := h _ _ _ hb
  have h2 := hb.2.1
  omega
theorem na_in_end {sg : List G} {i j k : Nat} (hk : sg.length ≤ k) (h : NoneAhead sg i j k) : NoneAhead sg i (j + 1) 0 := fun i' j' k' hb => by
  have h1 := h _ _ _ hb
  have h2 := hb.lt
  omega
theorem na_mid_end {sg : List G} {i j : Nat} (hj : sg.length ≤ j) (h : NoneAhead sg i j 0) : NoneAhead sg (i + 1) 0 0 := fun i' j' k' hb => by
  have h1 := h _ _ _ hb
  have h2 := hb.lt
  have h3 := hb.2.1
  have h4 := hb.1
  omega
theorem na_step {sg : List G} {i j k : Nat} (h : NoneAhead sg i j k) (hn : ¬ BarsAt sg i j k) : NoneAhead sg i j (k + 1) := fun i' j' k' hb => by
  have h1 := h _ _ _ hb
  by_cases e : i = i' ∧ j = j' ∧ k = k'
  · obtain ⟨rfl, rfl, rfl⟩ := e
    exact absurd hb hn
  · omega
theorem na_no {sg : List G} (h : NoneAhead sg sg.length 0 0) : NoBar sg := fun i j k hb => by
  have h1 := h _ _ _ hb
  have h2 := hb.lt
  have h3 := hb.1
  have h4 := hb.2.1
  omega
def Pas (a b c d pl f h : Int) : Prop := f * (b * d) ≤ a * d + pl * c * b ∧ a * d + pl * c * b ≤ h * (b * d)
instance (a b c d pl f h : Int) : Decidable (Pas a b c d pl f h) := by unfold Pas; exact inferInstance
structure Thr where
  a : Int
  b : Int
  c : Int
  d : Int
abbrev Thr.vs (t : Thr) : List V := [.int t.a, .int t.b, .int t.c, .int t.d]
abbrev Thr.pas (t : Thr) (g : G) : Prop := Pas t.a t.b t.c t.d g.p g.f g.h
abbrev Thr.gap (t : Thr) (p h : Int) : Int := t.a * t.d + t.c * p * t.b - h * t.b * t.d
structure OkT (t : Thr) : Prop where
  a1 : t.a.natAbs ≤ 999999999
  b1 : t.b.natAbs ≤ 999999999
  c1 : t.c.natAbs ≤ 999999999
  d1 : t.d.natAbs ≤ 999999999
  b0 : 0 < t.b
  d0 : 0 < t.d
  g1 : Int.gcd t.a t.b = 1
  g2 : Int.gcd t.c t.d = 1
theorem mdOf {i : Int} {n : Nat} (h : i.natAbs ≤ n) (hn : n ≤ 10 ^ 60) : Md i := Nat.le_trans h hn
inductive BarAt (H : Hp) (D : Addr) (gs : List G) : Prop where
  | mk (q : Addr) (t : List Int) (e : H D = some (.tup [.str "bar", .ref q])) (e2 : H q = some (.tup (t.map V.int))) (ne : t ≠ []) (f : FirstT gs t)
abbrev endA (up : Bool) (g : G) : Int := if up then g.f else g.h
abbrev endB (up : Bool) (g : G) : Int := if up then g.h else g.f
inductive EdgeAt (up : Bool) (H : Hp) (D : Addr) (gs : List G) : Prop where
  | throw (q : Addr) (t : Thr) (x y : G) (e : H D = some (.tup [.str "throw", .ref q, .int x.p, .int y.p])) (e2 : H q = some (.tup t.vs)) (ok : OkT t) (all : ∀ g ∈ gs, t.pas g) (hx : x ∈ gs) (hy : y ∈ gs) (lt : x.p < y.p) (tx : t.gap x.p (endA up x) = 0) (ty : t.gap y.p (endB up y) = 0)
  | bar (b : BarAt H D gs)
theorem BarAt.same {H H' : Hp} {D : Addr} {gs : List G} (h : BarAt H D gs) (s : Same H H') : BarAt H' D gs := by
  obtain ⟨q, t, e, e2, ne, f⟩ := h
  exact ⟨q, t, s.get e, s.get e2, ne, f⟩
theorem EdgeAt.same {up : Bool} {H H' : Hp} {D : Addr} {gs : List G} (h : EdgeAt up H D gs) (s : Same H H') : EdgeAt up H' D gs := by
  rcases h with ⟨q, t, x, y, e, e2, ok, all, hx, hy, lt, tx, ty⟩ | b
  · exact .throw q t x y (s.get e) (s.get e2) ok all hx hy lt tx ty
  · exact .bar (b.same s)
theorem FirstT.len3 {gs : List G} {t : List Int} (h : FirstT gs t) (ne : t ≠ []) : t.length = 3 := by
  rcases h with ⟨_, _, _, _, rfl⟩ | ⟨_, _, _, _, _, _, _, _, _, _, _, _, _, rfl⟩
  · exact absurd rfl ne
  · rfl
theorem atLn {P : Int → Prop} {ls : List Int} {e : Int} (h0 : 0 ≤ e) (h1 : e < ls.length) (h : ∀ x ∈ ls, P x) : ∃ v : Int, atI (ls.map V.int) e = some (V.int v) ∧ P v := by
  refine ⟨_, atI_ints h0 h1, ?_⟩
  have hl : e.toNat < ls.length := by omega
  rw [List.getD_eq_getElem?_getD, List.getElem?_eq_getElem hl]
  exact h _ (List.getElem_mem hl)
def occ (x : G) : List G → Int
  | [] => 0
  | g :: gs => (if g.p = x.p then 1 else 0) + occ x gs
theorem occ_append (x : G) : ∀ (xs ys : List G), occ x (xs ++ ys) = occ x xs + occ x ys
  | [], ys => by simp [occ]
  | g :: gs, ys => by simp only [List.cons_append, occ, occ_append x gs ys]; omega
theorem occ_none {x : G} : ∀ {gs : List G}, x.p ∉ gs.map G.p → occ x gs = 0
  | [], _ => rfl
  | g :: gs, h => by
    rw [List.map_cons, List.mem_cons, not_or] at h
    rw [occ, if_neg (fun z => h.1 z.symm), occ_none h.2]; rfl
theorem occ_one {x : G} : ∀ {gs : List G}, x ∈ gs → (gs.map G.p).Nodup → occ x gs = 1
  | [], h, _ => absurd h (by simp)
  | g :: gs, h, nd => by
    rw [List.map_cons, List.nodup_cons] at nd
    rcases List.mem_cons.mp h with e | e
    · subst e
      rw [occ, if_pos rfl, occ_none nd.1]; rfl
    · have hne : g.p ≠ x.p := fun z => nd.1 (z ▸ List.mem_map_of_mem e)
      rw [occ, if_neg hne, occ_one e nd.2]; rfl
theorem uniq_p {x y : G} {gs : List G} (nd : (gs.map G.p).Nodup) (hx : x ∈ gs) (hy : y ∈ gs) (e : x.p = y.p) : x = y := by
  induction gs with
  | nil => exact absurd hx (by simp)
  | cons g gs ih =>
    rw [List.map_cons, List.nodup_cons] at nd
    rcases List.mem_cons.mp hx with h1 | h1 <;> rcases List.mem_cons.mp hy with h2 | h2
    · rw [h1, h2]
    · subst h1; exact absurd (e ▸ List.mem_map_of_mem h2) nd.1
    · subst h2; exact absurd (e ▸ List.mem_map_of_mem h1) nd.1
    · exact ih nd.2 h1 h2
def LPas (u w m : Int) (g : G) : Prop := g.f * m ≤ u + w * g.p ∧ u + w * g.p ≤ g.h * m
theorem pas_line {t : Thr} {g : G} : t.pas g ↔ LPas (t.a * t.d) (t.c * t.b) (t.b * t.d) g := by
  show Pas _ _ _ _ _ _ _ ↔ _
  unfold Pas LPas
  rw [show g.p * t.c * t.b = t.c * t.b * g.p by grind]
theorem bar_no_line {a b c : G} {u w m : Int} (h1 : a.p < b.p) (h2 : b.p < c.p) (hm : 0 < m) (hb : Bars a b c) (la : LPas u w m a) (lb : LPas u w m b) (lc : LPas u w m c) : False := by
  obtain ⟨a1, a2⟩ := la
  obtain ⟨b1, b2⟩ := lb
  obtain ⟨c1, c2⟩ := lc
  have e : (u + w * b.p) * (c.p - a.p) = (u + w * a.p) * (c.p - b.p) + (u + w * c.p) * (b.p - a.p) := by grind
  rcases hb with hb | hb
  · unfold FootBar at hb
    have k1 := Int.mul_lt_mul_of_pos_right hb hm
    have k2 := Int.mul_le_mul_of_nonneg_right b1 (show 0 ≤ c.p - a.p by omega)
    have k3 := Int.mul_le_mul_of_nonneg_right a2 (show 0 ≤ c.p - b.p by omega)
    have k4 := Int.mul_le_mul_of_nonneg_right c2 (show 0 ≤ b.p - a.p by omega)
    rw [e] at k2
    have e1 : (a.h * (c.p - b.p) + c.h * (b.p - a.p)) * m = a.h * m * (c.p - b.p) + c.h * m * (b.p - a.p) := by grind
    have e2 : b.f * (c.p - a.p) * m = b.f * m * (c.p - a.p) := by grind
    rw [e1, e2] at k1
    omega
  · unfold HeadBar at hb
    have k1 := Int.mul_lt_mul_of_pos_right hb hm
    have k2 := Int.mul_le_mul_of_nonneg_right b2 (show 0 ≤ c.p - a.p by omega)
    have k3 := Int.mul_le_mul_of_nonneg_right a1 (show 0 ≤ c.p - b.p by omega)
    have k4 := Int.mul_le_mul_of_nonneg_right c1 (show 0 ≤ b.p - a.p by omega)
    rw [e] at k2
    have e1 : (a.f * (c.p - b.p) + c.f * (b.p - a.p)) * m = a.f * m * (c.p - b.p) + c.f * m * (b.p - a.p) := by grind
    have e2 : b.h * (c.p - a.p) * m = b.h * m * (c.p - a.p) := by grind
    rw [e1, e2] at k1
    omega
theorem asc_lt {gs : List G} (ha : Asc gs) {i j : Nat} {x y : G} (hx : gs[i]? = some x) (hy : gs[j]? = some y) (hij : i < j) : x.p < y.p := by
  obtain ⟨h1, rfl⟩ := List.getElem?_eq_some_iff.mp hx
  obtain ⟨h2, rfl⟩ := List.getElem?_eq_some_iff.mp hy
  exact List.pairwise_iff_getElem.mp ha i j h1 h2 hij
theorem FirstT.line {gs : List G} {t : List Int} (h : FirstT gs t) {u w m : Int} (hm : 0 < m) (hl : ∀ g ∈ gs, LPas u w m g) : t = [] := by
  rcases h with ⟨_, _, _, _, rfl⟩ | ⟨sg, hp, ha, i, j, k, a, b, c, hf, h1, h2, h3, _⟩
  · rfl
  · exfalso
    obtain ⟨⟨l1, l2, a', b', c', f1, f2, f3, hb⟩, _⟩ := hf
    rw [h1] at f1
    rw [h2] at f2
    rw [h3] at f3
    cases f1
    cases f2
    cases f3
    have mem : ∀ {i : Nat} {g : G}, sg[i]? = some g → g ∈ gs := fun e => hp.mem_iff.mp (List.mem_of_getElem? e)
    exact bar_no_line (asc_lt ha h1 h2 l1) (asc_lt ha h2 h3 l2) hm hb (hl _ (mem h1)) (hl _ (mem h2)) (hl _ (mem h3))
theorem steep_most {t : Thr} {x y : G} {u w m : Int} (ot : OkT t) (hm : 0 < m) (lt : x.p < y.p) (tx : t.gap x.p x.f = 0) (ty : t.gap y.p y.h = 0) (lx : LPas u w m x) (ly : LPas u w m y) : w * t.d ≤ t.c * m := by
  have hb := ot.b0
  have hd := ot.d0
  have e0 : t.b * (t.c * (y.p - x.p)) = t.b * ((y.h - x.f) * t.d) := by
    have : t.gap y.p y.h - t.gap x.p x.f = t.b * (t.c * (y.p - x.p)) - t.b * ((y.h - x.f) * t.d) := by unfold Thr.gap; grind
    omega
  have e1 : t.c * (y.p - x.p) = (y.h - x.f) * t.d := Int.eq_of_mul_eq_mul_left (by omega) e0
  have k1 : w * (y.p - x.p) ≤ (y.h - x.f) * m := by
    have := lx.1
    have := ly.2
    have e : w * (y.p - x.p) = (u + w * y.p) - (u + w * x.p) := by grind
    have e' : (y.h - x.f) * m = y.h * m - x.f * m := by grind
    omega
  have k2 := Int.mul_le_mul_of_nonneg_right k1 (show 0 ≤ t.d by omega)
  have e2 : (y.h - x.f) * m * t.d = (y.h - x.f) * t.d * m := by grind
  rw [e2, ← e1] at k2
  have k3 : w * t.d * (y.p - x.p) ≤ t.c * m * (y.p - x.p) := by
    rw [show w * t.d * (y.p - x.p) = w * (y.p - x.p) * t.d by grind, show t.c * m * (y.p - x.p) = t.c * (y.p - x.p) * m by grind]
    exact k2
  exact Int.le_of_mul_le_mul_right k3 (by omega)
theorem least_pair {gs : List G} (ok : ∀ g ∈ gs, OkG g) {x y : G} (hx : x ∈ gs) (hy : y ∈ gs) (lt : x.p < y.p)
    (least : ∀ x' ∈ gs, ∀ y' ∈ gs, x'.p < y'.p → (y.h - x.f) * (y'.p - x'.p) ≤ (y'.h - x'.f) * (y.p - x.p))
    (uniq : ∀ g ∈ gs, ∀ g' ∈ gs, g.p = g'.p → g = g')
    (nb1 : ∀ m ∈ gs, m.p < x.p → ¬ FootBar m x y) (nb2 : ∀ m ∈ gs, y.p < m.p → ¬ HeadBar x y m) :
    ∀ g ∈ gs, LPas (x.f * y.p - y.h * x.p) (y.h - x.f) (y.p - x.p) g := by
  intro g hg
  have og := ok g hg
  have ox := ok x hx
  have oy := ok y hy
  have gfh := og.fh
  unfold LPas
  have eL : x.f * y.p - y.h * x.p + (y.h - x.f) * g.p = x.f * (y.p - g.p) + y.h * (g.p - x.p) := by grind
  rw [eL]
  rcases Int.lt_trichotomy g.p x.p with h | h | h
  · have k1 := least g hg y hy (by omega)
    refine ⟨by grind, ?_⟩
    have k2 := nb1 g hg h
    unfold FootBar at k2
    rw [Int.not_lt] at k2
    grind
  · have := uniq g hg x hx h
    subst this
    refine ⟨by grind, ?_⟩
    have := Int.mul_le_mul_of_nonneg_right gfh (show 0 ≤ y.p - g.p by omega)
    grind
  · rcases Int.lt_trichotomy g.p y.p with h' | h' | h'
    · have k1 := least g hg y hy h'
      have k2 := least x hx g hg h
      exact ⟨by grind, by grind⟩
    · have := uniq g hg y hy h'
      subst this
      refine ⟨?_, by grind⟩
      have := Int.mul_le_mul_of_nonneg_right gfh (show 0 ≤ g.p - x.p by omega)
      grind
    · have k1 := least x hx g hg (by omega)
      refine ⟨?_, by grind⟩
      have k2 := nb2 g hg h'
      unfold HeadBar at k2
      rw [Int.not_lt] at k2
      grind
theorem GsAt.fresh {H : Hp} {as : List Addr} {gs : List G} {D : Addr} {o : HO} (h : GsAt H as gs) (hD : ∀ ys, H D ≠ some (.tup ys)) : GsAt (L2.upd H D o) as gs := by
  induction h with
  | nil => exact .nil
  | cons e _ ih =>
    refine .cons ?_ ih
    rw [upd_ne (fun z => hD _ (z ▸ e))]
    exact e
theorem comp_filter {K : PySem.W.Frag} {a : Addr} {as : List Addr} {gs : List G} {tc : TT} {caps : St} {D : Addr} {H1 : Hp} {Q : Hp → Prop} (P : G → Bool) (hl : SqL K H1 a (as.map V.ref)) (ga : GsAt H1 as gs) (hD : H1 D = none) (hz : gs.length ≤ 1000)
    (ht : ∀ v g H (R : Bool → Hp → Prop), g ∈ gs → Same H1 H → H v = some (.tup (G.vs g)) → R (P g) H → tc (some (.ref v) :: caps) H R)
    (hd : ∀ H as', Same H1 H → H D = some (.lst (as'.map V.ref)) → GsAt H as' (gs.filter P) → Q H) : cLoop (tVar 0) tc caps (Itl K a) D H1 Q := by
  have la := ga.len
  refine comp_list_if (xs := as.map V.ref) (fun i ys H => ∃ as' : List Addr, ys = as'.map V.ref ∧ Same H1 H ∧ H D = some (.lst ys) ∧ GsAt H as' ((gs.take i).filter P) ∧ as'.length ≤ i) ⟨[], rfl, same_upd hD, upd_same, .nil, Nat.le_refl _⟩ (fun _ _ H _ ⟨_, _, s1, _⟩ => s1.seq hl) ?_ ?_
  · rintro i x ys H hx ⟨as', rfl, s1, e1, g1, l1⟩
    have hi : i < gs.length := by
      have := (List.getElem?_eq_some_iff.mp hx).1
      rw [List.length_map] at this
      omega
    obtain ⟨v, hv, t1⟩ := ga.get (List.getElem?_eq_getElem hi)
    have ex : x = V.ref v := by
      rw [List.getElem?_map, hv] at hx
      exact (Option.some.inj hx).symm
    subst ex
    have et : gs.take (i + 1) = gs.take i ++ [gs[i]] := List.take_succ_eq_append_getElem hi
    refine ht v gs[i] H _ (List.getElem_mem hi) s1 (s1.get t1) ?_
    have hlen : (as.map V.ref).length = gs.length := by rw [List.length_map, la]
    by_cases hp : P gs[i] = true
    · rw [if_pos hp]
      refine ⟨_, rfl, e1, by rw [List.length_map, PySem.sizeLine_eq]; omega, _, by omega, rfl, by omega, as' ++ [v], by rw [List.map_append]; rfl, s1.updFresh hD, upd_same, ?_, by rw [List.length_append]; simp; omega⟩
      rw [et, List.filter_append, List.filter_cons, if_pos hp, List.filter_nil]
      exact (g1.snoc (s1.get t1)).fresh (fun ys z => by rw [e1] at z; cases z)
    · rw [if_neg hp]
      refine ⟨_, by omega, rfl, by omega, as', rfl, s1, e1, ?_, by omega⟩
      rw [et, List.filter_append, List.filter_cons, if_neg hp, List.filter_nil, List.append_nil]
      exact g1
  · rintro ys H ⟨as', rfl, s1, e1, g1, l1⟩
    rw [List.length_map, la, List.take_length] at g1
    exact hd H as' s1 e1 g1
theorem Paired.get {α β : Type} {F : α → β → Prop} {xs : List α} {ys : List β} (h : Paired F xs ys) {i : Nat} {y : β} (hy : ys[i]? = some y) : ∃ x, xs[i]? = some x ∧ F x y := by
  induction h generalizing i with
  | nil => exact absurd hy (by simp)
  | cons e _ ih =>
    cases i with
    | zero =>
      rw [List.getElem?_cons_zero] at hy ⊢
      cases hy
      exact ⟨_, rfl, e⟩
    | succ i =>
      rw [List.getElem?_cons_succ] at hy ⊢
      exact ih hy
theorem cutV_until {xs : List V} {i : Nat} : cutV xs none (some (i : Int)) = xs.take i := by
  unfold cutV
  rw [HT.sIx_nat, HT.sIx_none, List.drop_zero, Nat.sub_zero]
  by_cases h : i ≤ xs.length
  · rw [Nat.min_eq_left h]
  · rw [Nat.min_eq_right (by omega), List.take_length, List.take_of_length_le (by omega)]
theorem GsAt.append {H : Hp} {as bs : List Addr} {gs hs : List G} (h : GsAt H as gs) (h' : GsAt H bs hs) : GsAt H (as ++ bs) (gs ++ hs) := by
  induction h with
  | nil => exact h'
  | cons e _ ih => exact .cons e ih
theorem comp_filter_map {K : PySem.W.Frag} {a : Addr} {as : List Addr} {gs : List G} {te : TE} {tc : TT} {caps : St} {D : Addr} {H1 : Hp} {Q : Hp → Prop} (P : G → Bool) (f : G → V) (hl : SqL K H1 a (as.map V.ref)) (ga : GsAt H1 as gs) (hD : H1 D = none) (hz : gs.length ≤ 1000)
    (ht : ∀ v g H (R : Bool → Hp → Prop), g ∈ gs → Same H1 H → H v = some (.tup (G.vs g)) → R (P g) H → tc (some (.ref v) :: caps) H R)
    (he : ∀ v g H (R : VK), g ∈ gs → Same H1 H → H v = some (.tup (G.vs g)) → R (f g) H → te (some (.ref v) :: caps) H R)
    (hd : ∀ H, Same H1 H → H D = some (.lst ((gs.filter P).map f)) → Q H) : cLoop te tc caps (Itl K a) D H1 Q := by
  have la := ga.len
  refine comp_list_if (xs := as.map V.ref) (fun i ys H => ys = ((gs.take i).filter P).map f ∧ Same H1 H ∧ H D = some (.lst ys)) ⟨rfl, same_upd hD, upd_same⟩ (fun _ _ H _ ⟨_, s1, _⟩ => s1.seq hl) ?_ ?_
  · rintro i x ys H hx ⟨rfl, s1, e1⟩
    have hi : i < gs.length := by
      have := (List.getElem?_eq_some_iff.mp hx).1
      rw [List.length_map] at this
      omega
    obtain ⟨v, hv, t1⟩ := ga.get (List.getElem?_eq_getElem hi)
    have ex : x = V.ref v := by
      rw [List.getElem?_map, hv] at hx
      exact (Option.some.inj hx).symm
    subst ex
    have et : gs.take (i + 1) = gs.take i ++ [gs[i]] := List.take_succ_eq_append_getElem hi
    have hlen : (as.map V.ref).length = gs.length := by rw [List.length_map, la]
    have hle : (((gs.take i).filter P).map f).length ≤ i := by
      rw [List.length_map]
      exact Nat.le_trans (List.length_filter_le _ _) (List.length_take_le _ _)
    refine ht v gs[i] H _ (List.getElem_mem hi) s1 (s1.get t1) ?_
    by_cases hp : P gs[i] = true
    · rw [if_pos hp]
      refine he v gs[i] H _ (List.getElem_mem hi) s1 (s1.get t1) ?_
      refine ⟨e1, by rw [PySem.sizeLine_eq]; omega, _, by omega, rfl, by omega, ?_, s1.updFresh hD, upd_same⟩
      rw [et, List.filter_append, List.filter_cons, if_pos hp, List.filter_nil, List.map_append]
      rfl
    · rw [if_neg hp]
      refine ⟨_, by omega, rfl, by omega, ?_, s1, e1⟩
      rw [et, List.filter_append, List.filter_cons, if_neg hp, List.filter_nil, List.append_nil]
  · rintro ys H ⟨rfl, s1, e1⟩
    rw [List.length_map, la, List.take_length] at e1
    exact hd H s1 e1
theorem idx_of_lt {gs : List G} (ha : Asc gs) {i j : Nat} {x y : G} (hx : gs[i]? = some x) (hy : gs[j]? = some y) (h : x.p < y.p) : i < j := by
  rcases Nat.lt_trichotomy i j with c | c | c
  · exact c
  · subst c
    rw [hx] at hy
    cases hy
    omega
  · have := asc_lt ha hy hx c
    omega
theorem nobar_mem {gs : List G} (ha : Asc gs) (nb : NoBar gs) {a b c : G} (h1 : a ∈ gs) (h2 : b ∈ gs) (h3 : c ∈ gs) (l1 : a.p < b.p) (l2 : b.p < c.p) : ¬ Bars a b c := by
  obtain ⟨i, hi⟩ := List.mem_iff_getElem?.mp h1
  obtain ⟨j, hj⟩ := List.mem_iff_getElem?.mp h2
  obtain ⟨k, hk⟩ := List.mem_iff_getElem?.mp h3
  exact fun hb => nb i j k ⟨idx_of_lt ha hi hj l1, idx_of_lt ha hj hk l2, a, b, c, hi, hj, hk, hb⟩
theorem asc_uniq {gs : List G} (ha : Asc gs) {x y : G} (hx : x ∈ gs) (hy : y ∈ gs) (e : x.p = y.p) : x = y := by
  obtain ⟨i, hi⟩ := List.mem_iff_getElem?.mp hx
  obtain ⟨j, hj⟩ := List.mem_iff_getElem?.mp hy
  rcases Nat.lt_trichotomy i j with c | c | c
  · have := asc_lt ha hi hj c
    omega
  · subst c
    rw [hi] at hj
    exact Option.some.inj hj
  · have := asc_lt ha hj hi c
    omega
theorem comp_gmap {K : PySem.W.Frag} {a : Addr} {as : List Addr} {gs : List G} {te : TE} {caps : St} {D : Addr} {H1 : Hp} {Q : Hp → Prop} (F : Hp → V → G → Prop) (fs : ∀ H H' v g, Same H H' → F H v g → F H' v g)
    (fd : ∀ H v g xs ys, H D = some (.lst xs) → F H v g → F (L2.upd H D (.lst ys)) v g) (hl : SqL K H1 a (as.map V.ref)) (ga : GsAt H1 as gs) (hD : H1 D = none) (hz : gs.length ≤ 1000)
    (he : ∀ v g H (R : VK), g ∈ gs → Same H1 H → H v = some (.tup (G.vs g)) → (∀ y H', Same H H' → F H' y g → R y H') → te (some (.ref v) :: caps) H R)
    (hd : ∀ H ys, Same H1 H → H D = some (.lst ys) → Paired (F H) ys gs → Q H) : cLoop te tYes caps (Itl K a) D H1 Q := by
  have la := ga.len
  have hlen : (as.map V.ref).length = gs.length := by rw [List.length_map, la]
  refine comp_list_if (xs := as.map V.ref) (fun i ys H => Same H1 H ∧ H D = some (.lst ys) ∧ Paired (F H) ys (gs.take i)) ⟨same_upd hD, upd_same, .nil⟩ (fun _ _ H _ ⟨s1, _⟩ => s1.seq hl) ?_ ?_
  · rintro i x ys H hx ⟨s1, e1, pr⟩
    have hi : i < gs.length := by
      have := (List.getElem?_eq_some_iff.mp hx).1
      omega
    obtain ⟨v, hv, t1⟩ := ga.get (List.getElem?_eq_getElem hi)
    have ex : x = V.ref v := by
      rw [List.getElem?_map, hv] at hx
      exact (Option.some.inj hx).symm
    subst ex
    have et : gs.take (i + 1) = gs.take i ++ [gs[i]] := List.take_succ_eq_append_getElem hi
    have hle : ys.length ≤ i := by
      rw [Paired.length pr]
      exact List.length_take_le _ _
    unfold tYes
    dsimp only
    rw [if_pos rfl]
    refine he v gs[i] H _ (List.getElem_mem hi) s1 (s1.get t1) fun y H' s2 fy => ?_
    refine ⟨s2.get e1, by rw [PySem.sizeLine_eq]; omega, _, by omega, rfl, by omega, (s1.trans s2).updFresh hD, upd_same, ?_⟩
    rw [et]
    have e2 := s2.get e1
    have pr2 := Paired.mapP pr fun v g h => fd _ _ _ _ (ys ++ [y]) e2 (fs _ _ _ _ s2 h)
    have app : ∀ {α β : Type} {F : α → β → Prop} {l : List α} {r : List β} {x : α} {y : β}, Paired F l r → F x y → Paired F (l ++ [x]) (r ++ [y]) := by
      intro α β F l r x y h hxy
      induction h with
      | nil => exact .cons hxy .nil
      | cons h1 _ ih => exact .cons h1 ih
    exact app pr2 (fd _ _ _ _ _ e2 fy)
  · rintro ys H ⟨s1, e1, pr⟩
    rw [hlen, List.take_length] at pr
    exact hd H ys s1 e1 pr
theorem Paired.eq_map {α β : Type} {f : β → α} : ∀ {xs : List α} {ys : List β}, Paired (fun x y => x = f y) xs ys → xs = ys.map f
  | _, _, .nil => rfl
  | _, _, .cons h t => by rw [List.map_cons, ← Paired.eq_map t, h]
theorem line_thr {p0 h0 p1 h1 a b c d : Int} (lt : p0 < p1) (L1 : LowT (h0 * (p1 - p0) - p0 * (h1 - h0)) (p1 - p0) a b) (L2 : LowT (h1 - h0) (p1 - p0) c d) :
    (∀ g : G, (⟨a, b, c, d⟩ : Thr).pas g ↔ LPas (h0 * p1 - h1 * p0) (h1 - h0) (p1 - p0) g) ∧ (⟨a, b, c, d⟩ : Thr).gap p0 h0 = 0 ∧ (⟨a, b, c, d⟩ : Thr).gap p1 h1 = 0 := by
  have e1 := L1.eq
  have e2 := L2.eq
  have hb := L1.pos
  have hd := L2.pos
  have hbd : 0 < b * d := Int.mul_pos hb hd
  have hS : 0 < p1 - p0 := by omega
  have eU : h0 * (p1 - p0) - p0 * (h1 - h0) = h0 * p1 - h1 * p0 := by grind
  rw [eU] at e1
  have key : ∀ p, (p1 - p0) * (a * d + c * b * p) = (b * d) * (h0 * p1 - h1 * p0 + (h1 - h0) * p) := fun p => by grind
  refine ⟨fun g => ?_, ?_, ?_⟩
  · rw [pas_line]
    unfold LPas
    show g.f * (b * d) ≤ a * d + c * b * g.p ∧ a * d + c * b * g.p ≤ g.h * (b * d) ↔ _
    have k := key g.p
    constructor
    · rintro ⟨q1, q2⟩
      have r1 := Int.mul_le_mul_of_nonneg_left q1 (Int.le_of_lt hS)
      have r2 := Int.mul_le_mul_of_nonneg_left q2 (Int.le_of_lt hS)
      rw [k] at r1 r2
      refine ⟨Int.le_of_mul_le_mul_left (a := b * d) ?_ hbd, Int.le_of_mul_le_mul_left (a := b * d) ?_ hbd⟩
      · rw [show b * d * (g.f * (p1 - p0)) = (p1 - p0) * (g.f * (b * d)) by grind]; exact r1
      · rw [show b * d * (g.h * (p1 - p0)) = (p1 - p0) * (g.h * (b * d)) by grind]; exact r2
    · rintro ⟨q1, q2⟩
      have r1 := Int.mul_le_mul_of_nonneg_left q1 (Int.le_of_lt hbd)
      have r2 := Int.mul_le_mul_of_nonneg_left q2 (Int.le_of_lt hbd)
      rw [← k] at r1 r2
      refine ⟨Int.le_of_mul_le_mul_left (a := p1 - p0) ?_ hS, Int.le_of_mul_le_mul_left (a := p1 - p0) ?_ hS⟩
      · rw [show (p1 - p0) * (g.f * (b * d)) = b * d * (g.f * (p1 - p0)) by grind]; exact r1
      · rw [show (p1 - p0) * (g.h * (b * d)) = b * d * (g.h * (p1 - p0)) by grind]; exact r2
  · show a * d + c * p0 * b - h0 * b * d = 0
    have k := key p0
    have hz : (p1 - p0) * (a * d + c * p0 * b - h0 * b * d) = 0 := by grind
    rcases Int.mul_eq_zero.mp hz with z | z
    · omega
    · exact z
  · show a * d + c * p1 * b - h1 * b * d = 0
    have k := key p1
    have hz : (p1 - p0) * (a * d + c * p1 * b - h1 * b * d) = 0 := by grind
    rcases Int.mul_eq_zero.mp hz with z | z
    · omega
    · exact z
theorem line_ok {p0 h0 p1 h1 a b c d : Int} (b0 : p0.natAbs ≤ 1000) (b1 : h0.natAbs ≤ 1000) (b2 : p1.natAbs ≤ 1000) (b3 : h1.natAbs ≤ 1000) (L1 : LowT (h0 * (p1 - p0) - p0 * (h1 - h0)) (p1 - p0) a b) (L2 : LowT (h1 - h0) (p1 - p0) c d) : OkT ⟨a, b, c, d⟩ := by
  have m1 := abs_mul_le (m := 1000) (n := 2000) b1 (show (p1 - p0).natAbs ≤ 2000 by clear L1 L2 b1 b3; omega)
  have m2 := abs_mul_le (m := 1000) (n := 2000) b0 (show (h1 - h0).natAbs ≤ 2000 by clear L1 L2 m1 b0 b2; omega)
  have t1 : (h0 * (p1 - p0) - p0 * (h1 - h0)).natAbs ≤ 1000 * 2000 + 1000 * 2000 := Nat.le_trans (Int.natAbs_sub_le _ _) (Nat.add_le_add m1 m2)
  have s1 : (p1 - p0).natAbs ≤ 2000 := by clear m1 m2 t1 L1 L2 b1 b3; omega
  have s2 : (h1 - h0).natAbs ≤ 2000 := by clear m1 m2 t1 L1 L2 b0 b2; omega
  exact ⟨Nat.le_trans L1.absx (Nat.le_trans t1 (by decide)), Nat.le_trans L1.absy (Nat.le_trans s1 (by decide)), Nat.le_trans L2.absx (Nat.le_trans s2 (by decide)), Nat.le_trans L2.absy (Nat.le_trans s1 (by decide)), L1.pos, L2.pos, L1.one, L2.one⟩
def LeR (x y u v : G) : Prop := (y.h - x.f) * (v.p - u.p) ≤ (v.h - u.f) * (y.p - x.p)
theorem LeR.refl (x y : G) : LeR x y x y := Int.le_refl _
theorem LeR.trans {x y u v u' v' : G} (l0 : x.p < y.p) (l1 : u.p < v.p) (l2 : u'.p < v'.p) (h1 : LeR x y u v) (h2 : LeR u v u' v') : LeR x y u' v' := by
  unfold LeR at *
  have r1 := Int.mul_le_mul_of_nonneg_right h1 (show 0 ≤ v'.p - u'.p by omega)
  have r2 := Int.mul_le_mul_of_nonneg_right h2 (show 0 ≤ y.p - x.p by omega)
  refine Int.le_of_mul_le_mul_left (a := v.p - u.p) ?_ (by omega)
  have e1 : (v.p - u.p) * ((y.h - x.f) * (v'.p - u'.p)) = (y.h - x.f) * (v.p - u.p) * (v'.p - u'.p) := by grind
  have e2 : (v.p - u.p) * ((v'.h - u'.f) * (y.p - x.p)) = (v'.h - u'.f) * (v.p - u.p) * (y.p - x.p) := by grind
  have e3 : (v.h - u.f) * (y.p - x.p) * (v'.p - u'.p) = (v.h - u.f) * (v'.p - u'.p) * (y.p - x.p) := by grind
  rw [e1, e2]
  rw [e3] at r1
  exact Int.le_trans r1 r2
structure FoundAt (H : Hp) (D : Addr) (gs : List G) (q : Addr) (t : Thr) (x y : G) : Prop where
  eD : H D = some (.tup [.ref q, .int x.p, .int y.p])
  eq : H q = some (.tup t.vs)
  ok : OkT t
  all : ∀ g ∈ gs, t.pas g
  hx : x ∈ gs
  hy : y ∈ gs
  lt : x.p < y.p
  tx : t.gap x.p x.f = 0
  ty : t.gap y.p y.h = 0
theorem not_nobar_of_least {gs : List G} (ha : Asc gs) (ok : ∀ g ∈ gs, OkG g) {x y : G} (hx : x ∈ gs) (hy : y ∈ gs) (lt : x.p < y.p) (least : ∀ x' ∈ gs, ∀ y' ∈ gs, x'.p < y'.p → LeR x y x' y') (hn : ¬ ∀ g ∈ gs, LPas (x.f * y.p - y.h * x.p) (y.h - x.f) (y.p - x.p) g) : ¬ NoBar gs := fun nb =>
  hn (least_pair ok hx hy lt least (fun g hg g' hg' e => asc_uniq ha hg hg' e) (fun m hm l z => nobar_mem ha nb hm hx hy l lt (.inl z)) (fun m hm l z => nobar_mem ha nb hx hy hm lt l (.inr z)))
theorem first_of_bar {gs sg : List G} (hp : sg.Perm gs) (ha : Asc sg) (hb : ¬ NoBar sg) {t : List Int} (h : FirstT gs t) : t ≠ [] := by
  rcases h with ⟨sg', hp', ha', hn, rfl⟩ | ⟨_, _, _, _, _, _, _, _, _, _, _, _, _, rfl⟩
  · have e := asc_perm_eq ha' ha (hp'.trans hp.symm)
    subst e
    exact absurd hn hb
  · simp
def turnG (g : G) : G := ⟨g.p, -g.h, -g.f⟩
def turnT (t : Thr) : Thr := ⟨-t.a, t.b, -t.c, t.d⟩
theorem turn_ok {g : G} (h : OkG g) : OkG (turnG g) := by
  obtain ⟨h1, h2, h3, h4, h5⟩ := h
  exact ⟨h1, h2, by show -1000 ≤ -g.h; omega, by show -g.h ≤ -g.f; omega, by show -g.f ≤ 1000; omega⟩
theorem turn_okT {t : Thr} (h : OkT t) : OkT (turnT t) := by
  obtain ⟨h1, h2, h3, h4, h5, h6, h7, h8⟩ := h
  exact ⟨by show (-t.a).natAbs ≤ _; omega, h2, by show (-t.c).natAbs ≤ _; omega, h4, h5, h6, by show Int.gcd (-t.a) t.b = 1; rw [Int.neg_gcd]; exact h7, by show Int.gcd (-t.c) t.d = 1; rw [Int.neg_gcd]; exact h8⟩
theorem turn_pas {t : Thr} {g : G} : (turnT t).pas g ↔ t.pas (turnG g) := by
  show Pas (-t.a) t.b (-t.c) t.d g.p g.f g.h ↔ Pas t.a t.b t.c t.d g.p (-g.h) (-g.f)
  unfold Pas
  have e1 : -t.a * t.d + g.p * -t.c * t.b = -(t.a * t.d + g.p * t.c * t.b) := by grind
  have e2 : -g.h * (t.b * t.d) = -(g.h * (t.b * t.d)) := by grind
  have e3 : -g.f * (t.b * t.d) = -(g.f * (t.b * t.d)) := by grind
  rw [e1, e2, e3]
  generalize t.a * t.d + g.p * t.c * t.b = A
  generalize g.h * (t.b * t.d) = B
  generalize g.f * (t.b * t.d) = C
  constructor <;> (rintro ⟨h1, h2⟩; exact ⟨by omega, by omega⟩)
theorem turn_gap {t : Thr} {p h : Int} (z : t.gap p (-h) = 0) : (turnT t).gap p h = 0 := by
  have z : t.a * t.d + t.c * p * t.b - -h * t.b * t.d = 0 := z
  show -t.a * t.d + -t.c * p * t.b - h * t.b * t.d = 0
  grind
theorem turn_asc {gs : List G} (h : Asc gs) : Asc (gs.map turnG) := by
  unfold Asc
  rw [List.pairwise_map]
  exact h
theorem turn_bars {a b c : G} : Bars (turnG a) (turnG b) (turnG c) ↔ Bars a b c := by
  have e1 : FootBar (turnG a) (turnG b) (turnG c) ↔ HeadBar a b c := by
    show -a.f * (c.p - b.p) + -c.f * (b.p - a.p) < -b.h * (c.p - a.p) ↔ b.h * (c.p - a.p) < a.f * (c.p - b.p) + c.f * (b.p - a.p)
    have q1 : -a.f * (c.p - b.p) + -c.f * (b.p - a.p) = -(a.f * (c.p - b.p) + c.f * (b.p - a.p)) := by grind
    have q2 : -b.h * (c.p - a.p) = -(b.h * (c.p - a.p)) := by grind
    rw [q1, q2]
    generalize a.f * (c.p - b.p) + c.f * (b.p - a.p) = A
    generalize b.h * (c.p - a.p) = B
    constructor <;> (intro h; omega)
  have e2 : HeadBar (turnG a) (turnG b) (turnG c) ↔ FootBar a b c := by
    show -b.f * (c.p - a.p) < -a.h * (c.p - b.p) + -c.h * (b.p - a.p) ↔ a.h * (c.p - b.p) + c.h * (b.p - a.p) < b.f * (c.p - a.p)
    have q1 : -a.h * (c.p - b.p) + -c.h * (b.p - a.p) = -(a.h * (c.p - b.p) + c.h * (b.p - a.p)) := by grind
    have q2 : -b.f * (c.p - a.p) = -(b.f * (c.p - a.p)) := by grind
    rw [q1, q2]
    generalize a.h * (c.p - b.p) + c.h * (b.p - a.p) = A
    generalize b.f * (c.p - a.p) = B
    constructor <;> (intro h; omega)
  unfold Bars
  rw [e1, e2]
  exact Or.comm
theorem turn_nobar {gs : List G} (h : NoBar gs) : NoBar (gs.map turnG) := fun i j k ⟨h1, h2, a, b, c, e1, e2, e3, hb⟩ => by
  rw [List.getElem?_map] at e1 e2 e3
  obtain ⟨a', f1, rfl⟩ := Option.map_eq_some_iff.mp e1
  obtain ⟨b', f2, rfl⟩ := Option.map_eq_some_iff.mp e2
  obtain ⟨c', f3, rfl⟩ := Option.map_eq_some_iff.mp e3
  exact h i j k ⟨h1, h2, a', b', c', f1, f2, f3, turn_bars.mp hb⟩
end TG
set_option Elab.async false
set_option linter.all false
set_option maxRecDepth 100000
set_option maxHeartbeats 4000000
namespace L2
open PySem PySem.Spec PyProof.Rows
theorem ObjOk.here {P : Program} {w : World} {H : Hp} {h : Heap} {a : Addr} {o : HO} (x : ObjOk P w H h a o) : ∃ ob, h.get? a = some ob := by
  cases q : h.get? a with
  | some ob => exact ⟨ob, rfl⟩
  | none =>
    exfalso
    have x' : ObjOk P w H h a o := x
    induction o with
    | lst xs => obtain ⟨_, _, _, _, e⟩ := x'; rw [q] at e; cases e
    | tup xs => obtain ⟨_, _, _, o, e, _⟩ := x'; rw [q] at e; cases e
    | dK kvs => obtain ⟨_, _, _, _, o, _, _, e, _⟩ := x'; rw [q] at e; cases e
    | dT kvs => obtain ⟨_, _, _, _, o, _, _, e, _⟩ := x'; rw [q] at e; cases e
    | set S n => obtain ⟨o, _, _, _, e, _⟩ := x'; rw [q] at e; cases e
    | ins C dx fs => obtain ⟨_, _, _, e, _⟩ := x'; rw [q] at e; cases e
    | own b => obtain ⟨o, e⟩ := x'; rw [q] at e; cases e
    | xd fs => obtain ⟨_, ⟨o, _, _, e, _⟩, _⟩ := x'; rw [q] at e; cases e
    | rng lo hi => obtain ⟨_, _, _, e⟩ := x'; rw [q] at e; cases e
    | frz o u ih => exact ih x'.2 x'.2
    | tbl ps => have e : h.get? a = _ := x'; rw [q] at e; cases e
    | met f y => have e : h.get? a = _ := x'; rw [q] at e; cases e
    | ext φ => obtain ⟨_, ⟨o, e⟩, _⟩ := x'; rw [q] at e; cases e
def Fly (l : List Env) (hs : Heap) (H' : Hp) (ea : Addr) (cls : Value) (h : Heap) : Prop :=
  ∃ (B : Heap) (a0 : Value), Heap.FlyingW B l ea cls a0 h ∧ (∀ b o, hs.get? b = some o → b ∉ frs l → ∃ o', B.get? b = some o') ∧ ∀ b, H' b ≠ none → ∃ o', B.get? b = some o'
def CXE (P : Program) (w : World) : CXT := fun outer H s E e s' => ∃ (ea : Addr) (cls : Value) (H' : Hp), e = .ref ea ∧ s'.os = s.os ∧ AllBare s'.gens ∧ Un (frs outer) [] H H' s.heap s'.heap ∧ HOk P w H' s'.heap ∧ Fly outer s.heap H' ea cls s'.heap ∧ E cls none H'
section
variable {X : Cx} {pins : List (Addr × Obj)} {σ σ1 : St} {H H1 H' : Hp} {s s1 s' : Shared} {h' B : Heap} {ea : Addr} {cls : Value}
theorem Inv.notStack (I : Inv X pins σ H s) {b : Addr} {o : Obj} (e : X.s₀.heap.get? b = some o) (hb : b ∉ X.fs) : b ∉ frs X.stack := fun hm => by
  rcases List.mem_cons.mp (I.stkSub b hm) with z | z
  · exact absurd (Nat.lt_of_lt_of_le (Heap.lt_size e) I.ok.above) (by rw [z]; exact Nat.lt_irrefl _)
  · exact hb z
theorem Inv.fly (I1 : Inv X pins σ1 H1 s1) (I : Inv X pins σ H s) (hB : B.StaysIn s.heap) (hB' : B.StaysIn h') (up : s.heap.UpToSlots h')
    (c1 : ∀ b o, s1.heap.get? b = some o → b ∉ frs X.stack → ∃ o', B.get? b = some o') (c2 : ∀ b, H b ≠ none → ∃ o', B.get? b = some o') : Inv X pins σ H { s with heap := h' } := by
  have via : ∀ b o, s.heap.get? b = some o → (∃ o', B.get? b = some o') → h'.get? b = some o := fun b o e ⟨o', eb⟩ => by
    have := hB b o' eb
    rw [e] at this
    cases this
    exact hB' b o eb
  have slot : ∀ b o, X.s₀.heap.get? b = some o → X.H₀ b = none → b ∈ X.fs → b ∉ X.ex → ∃ sl, h'.get? b = some { o with slots := sl } := fun b o e n hb hx => by
    obtain ⟨sl, e1⟩ := I.base.slot b o e n hb hx
    obtain ⟨_, of, hof, hnf⟩ := I.ok.funs.mem hb
    rw [e] at hof
    cases hof
    obtain ⟨sl', e2⟩ := up b _ e1 hnf
    exact ⟨sl', e2⟩
  have cellK : ∀ c v, s.heap.IsCell c v → h'.IsCell c v := fun c v ⟨o, ho, hd⟩ => by
    obtain ⟨sl, e⟩ := up c o ho (fun vs q => by rw [hd] at q; cases q)
    exact ⟨_, e, hd⟩
  refine ⟨I.ok, I.os, I.bare, ⟨fun b o e n hb hx => ?_, slot, I.base.free, fun b o e hx => ?_, I.base.tups, I.base.frzs, I.base.tbls⟩, ?_, fun x c e => ?_, I.free, I.freeC, fun p hp => ?_, fun b u e => ?_, I.len⟩
  · exact via b o (I.base.keep b o e n hb hx) (c1 b o (I1.base.keep b o e n hb hx) (I.notStack e hb))
  · by_cases hb : b ∈ X.fs
    · obtain ⟨sl, q⟩ := slot b o e (I.ok.frf b hb) hb hx
      exact ⟨_, q⟩
    · obtain ⟨o1, a1⟩ := I1.base.there b o e hx
      obtain ⟨o', eb⟩ := c1 b o1 a1 (I.notStack e hb)
      exact ⟨o', hB' b o' eb⟩
  · obtain ⟨m, hn, hl⟩ := I.loc
    refine ⟨m, up.ns hn, fun i x v e1 e2 e3 => ?_⟩
    obtain ⟨u, r, l⟩ := hl i x v e1 e2 e3
    refine ⟨u, r, ?_⟩
    rcases l with l | ⟨k, c, e, z⟩
    · exact .inl l
    · exact .inr ⟨k, c, e, cellK c _ z⟩
  · obtain ⟨v, z⟩ := I.cell x c e
    exact ⟨v, cellK c v z⟩
  · obtain ⟨e, n, ne, nf, d⟩ := I.pin p hp
    refine ⟨via p.1 p.2 e (c1 p.1 p.2 (I1.pin p hp).1 fun hm => ?_), n, ne, nf, d⟩
    rcases List.mem_cons.mp (I.stkSub _ hm) with z | z
    · exact ne z
    · exact nf z
  · refine (I.hok b u e).stay (fun c v hc q => via c v q (c2 c ?_)) (fun _ q => q) fun _ _ q => q
    rcases hc with z | z
    · rw [z, e]; simp
    · rw [z]; simp
structure Arr (X : Cx) (pins : List (Addr × Obj)) (σ : St) (ea : Addr) (cls : Value) (H' : Hp) (s' : Shared) : Prop where
  inv : Inv X pins σ H' s'
  fly : ∃ (H1 : Hp) (s1 : Shared), Inv X pins σ H1 s1 ∧ Fly X.stack s1.heap H' ea cls s'.heap
theorem arr_of {E : XK} {e : Value} (I : Inv X pins σ H s) (h : CXE X.prog X.w X.stack H s E e s') : ∃ ea cls H', e = .ref ea ∧ Arr X pins σ ea cls H' s' ∧ E cls none H' := by
  obtain ⟨ea, cls, H', rfl, os, bare, un, hok, fl, hE⟩ := h
  exact ⟨ea, cls, H', rfl, ⟨I.call' (ch := []) os un hok bare (fun b z => absurd z (by simp)), H, s, I, fl⟩, hE⟩
end
section
variable {P : Program} {w : World} {K : PySem.W.Frag} {mg : Str → Option Value} {base : Heap} {N : List Str} {qual : Str} {scope : Scope} {f : Addr} {cd : Value} {A : Around} {outer : List Env} {s : Shared} {H : Hp} {E : XK}
  {pins : List (Addr × Obj)} {σ : St} {H1 H' : Hp} {s1 s' : Shared} {ea : Addr} {cls : Value} {h' : Heap} {args : List Value}
theorem cx_arr (a : Arr (cxOf (CXE P w) P w K mg base N qual scope f cd A outer s H E) pins σ ea cls H' s') (hE : E cls none H') : (cxOf (CXE P w) P w K mg base N qual scope f cd A outer s H E).xe (.ref ea) s' := by
  obtain ⟨I, H1, s1, I1, B, a0, fl, c1, c2⟩ := a
  refine wpAny_leaves_onW (A := A.deeper (envOfC qual scope s.heap.objs.size f cd)) (env := envOfC qual scope s.heap.objs.size f cd) (outer := outer) I.ok.frames rfl fl fun h' fl' up => ?_
  have I2 := Inv.fly I1 I fl.1 fl'.1 up c1 c2
  refine ⟨ea, cls, H', rfl, I2.os, I2.bare, I2.base, I2.hok, ⟨B, a0, fl', fun b o e hb => ?_, c2⟩, hE⟩
  obtain ⟨o1, a1⟩ := I1.base.there b o e (fun z => absurd (show b ∈ ([] : List Addr) from z) (by simp))
  exact c1 b o1 a1 (I.notStack e hb)
theorem cx_made (I : Inv (cxOf (CXE P w) P w K mg base N qual scope f cd A outer s H E) pins σ H1 s1) (hx : Heap.MadeExcOf s1.heap h' ea cls args) (hE : E cls none H1) : (cxOf (CXE P w) P w K mg base N qual scope f cd A outer s H E).xe (.ref ea) { s1 with heap := h' } := by
  have hin : ∀ env ∈ (envOfC qual scope s.heap.objs.size f cd :: outer), ∀ b, env.frame = some b → b ∈ frs (envOfC qual scope s.heap.objs.size f cd :: outer) := fun env he b hb => List.mem_filterMap.mpr ⟨env, he, hb⟩
  have hfun : s1.heap.FunFrames (PySem.W.hideAll s1.heap (frs (envOfC qual scope s.heap.objs.size f cd :: outer))) (envOfC qual scope s.heap.objs.size f cd :: outer) := PySem.W.funFrames_hide I.stack hin
  have c1 : ∀ b o, s1.heap.get? b = some o → b ∉ frs (envOfC qual scope s.heap.objs.size f cd :: outer) → ∃ o', (PySem.W.hideAll s1.heap (frs (envOfC qual scope s.heap.objs.size f cd :: outer))).get? b = some o' := fun b o e hb => ⟨o, PySem.W.hideAll_get _ e hb⟩
  have c2 : ∀ b, H1 b ≠ none → ∃ o', (PySem.W.hideAll s1.heap (frs (envOfC qual scope s.heap.objs.size f cd :: outer))).get? b = some o' := fun b n => by
    cases q : H1 b with
    | none => exact absurd q n
    | some o =>
      obtain ⟨ob, e⟩ := (I.hok b o q).here
      exact ⟨ob, PySem.W.hideAll_get _ e fun z => by rw [I.stkFree b z] at q; cases q⟩
  refine wpAny_leaves_madeW (A := A.deeper (envOfC qual scope s.heap.objs.size f cd)) (s := { s1 with heap := h' }) (env := envOfC qual scope s.heap.objs.size f cd) (outer := outer) I.ok.frames rfl (fun b o q => PySem.W.of_hideAll _ q) hfun hx fun h'' t fl tup tn up => ?_
  have I' : Inv (cxOf (CXE P w) P w K mg base N qual scope f cd A outer s H E) pins σ H1 { s1 with heap := h' } := I.kept (t' := s1.toks) hx.keeps
  have I2 := Inv.fly (h' := h'') I I' (fun b o q => hx.keeps b o (PySem.W.of_hideAll _ q)) fl.1 up c1 c2
  refine ⟨ea, cls, H1, rfl, I2.os, I2.bare, I2.base, I2.hok, ⟨_, _, fl, fun b o e hb => ?_, c2⟩, hE⟩
  obtain ⟨o1, a1⟩ := I.base.there b o e (fun z => absurd (show b ∈ ([] : List Addr) from z) (by simp))
  exact c1 b o1 a1 (I.notStack e hb)
theorem passE : Passes (CXE P w) (cxOf (CXE P w) P w K mg base N qual scope f cd A outer s H E) E := fun pins σ H s e s' I h => by
  obtain ⟨ea, cls, H', rfl, arr, hE⟩ := arr_of I h
  exact cx_arr arr hE
theorem ownE : PassesOwn (model P w) (cxOf (CXE P w) P w K mg base N qual scope f cd A outer s H E).A (cxOf (CXE P w) P w K mg base N qual scope f cd A outer s H E).env (cxOf (CXE P w) P w K mg base N qual scope f cd A outer s H E).xe := PassesOwn.leaving (Q₁ := fun e s'' => CXE P w outer H s E e s'')
theorem Fun.okX {x qual : Str} {st : Stmt} {f : Addr} {fd : FuncData} {N ps : List Str} {k : Nat} {sp : Sp} (F : Fun K x qual st f fd) (S : FnScope N ps (defScope st)) (len : ∀ vs H Q E, sp vs H Q E → vs.length = ps.length)
    (hbody : ∀ (cdv : Value) (A : Around) (outer : List Env) (s : Shared) (H : Hp) (vs : List V) (Q : VK) (E : XK), Room k (A.deeper (envOfC qual (defScope st) s.heap.objs.size f cdv)) → sp vs H Q E →
      ∃ t, PSs (cxOf (CXE P w) P w K mg base N qual (defScope st) f cdv A outer s H E) (defBody st) t ∧ t { nx := fun _ H' => Q .non H', rt := Q } (start N vs) H) : FnOk P w K mg base (CXE P w) (k + 1) f fd ps sp := by
  obtain ⟨oc, od, kV, doc, pm, an, cdv, ct, osl, rfl, lk, hcd⟩ := F.ex
  exact fn_of lk hcd S len fun A outer s H vs Q E hr hsp => hbody cdv A outer s H vs Q E hr hsp
end
structure DM (K : PySem.W.Frag) (C : Addr) (x qual : Str) (st : Stmt) (ps : List Str) (f : Addr) (fd : FuncData) : Prop where
  F : Fun K x qual st f fd
  mt : Meth K C x f
  b : Binds K fd ps []
abbrev bmV : List Value := [.type "ValueError", .type "Exception", .type "BaseException", .type "object"]
abbrev ErrC (K : PySem.W.Frag) (C : Addr) : Prop := PySem.W.excIn K C bmV "ValueError.__new__" = true
theorem toArr {α : Type} {sl : Array α} {l : List α} (e : sl.toList = l) : sl = l.toArray := by rw [← e]
theorem ErrC.rec {K : PySem.W.Frag} {C : Addr} (q : ErrC K C) : ∃ (dd : Option Addr) (cd : ClassData) (bm : List Value) (k0 k1 k2 k3 k5 : Option Value),
    K.lookup C = some ⟨.type "type", dd, .cls cd, #[k0, k1, k2, k3, some (.builtin "ValueError.__new__"), k5]⟩ ∧ cd.mro = .ref C :: bm ∧ cd.hasDel = false ∧ PySem.W.tailIn K bmV bm = true ∧ PySem.W.nsOkIn K cd.ns = true ∧ PySem.W.nsIn K cd.ns "__init__" = some none := by
  simp only [ErrC, PySem.W.excIn] at q
  repeat' split at q
  all_goals first | exact absurd q Bool.false_ne_true | skip
  next dd cd sl hK mr ll C' bm k0 k1 k2 k3 n k5 e1 e2 =>
    rw [toArr e2] at hK
    simp only [Bool.and_eq_true] at q
    obtain ⟨⟨⟨⟨⟨h1, h2⟩, h3⟩, h4⟩, h5⟩, h6⟩ := q
    have h1 : C' = C := by simpa using h1
    have h2 : n = "ValueError.__new__" := by simpa using h2
    subst h1 h2
    exact ⟨dd, cd, bm, k0, k1, k2, k3, k5, hK, e1, by simpa using h3, h4, h5, by simpa using h6⟩
theorem ErrC.own {K : PySem.W.Frag} {C : Addr} {x : Str} {mg : Str → Option Value} {h : Heap} (q : ErrC K C) (X : K.In h) (hm : mg x = some (.ref C)) : OwnCls x C bmV "ValueError.__new__" mg h := by
  obtain ⟨dd, cd, bm, k0, k1, k2, k3, k5, hK, e1, e2, e3, e4, e5⟩ := q.rec
  have ns : h.Ns cd.ns (h.nsMap cd.ns) := .of_isNs (PySem.W.isNs_of_in X e4)
  have no : h.nsMap cd.ns "__init__" = none := PySem.W.nsMap_none_of_in X e4 e5
  have tl := PySem.W.tail_of_in X e3
  rcases cd with ⟨a1, a2, a3, a4, a5, a6, a7, a8, a9, a10, a11⟩
  simp only at e1 e2
  subst e1 e2
  exact ⟨hm, bm, a4, a1, a5, a2, a6, a7, a8, a9, a10, dd, k0, k1, k2, k3, k5, _, X _ _ hK, ns, no, tl⟩
def MadeP (X : Cx) (E : XK) : Prop := ∀ (pins : List (Addr × Obj)) (σ : St) (H : Hp) (s : Shared) (h' : Heap) (ea : Addr) (cls : Value) (args : List Value), Inv X pins σ H s → Heap.MadeExcOf s.heap h' ea cls args → E cls none H → X.xe (.ref ea) { s with heap := h' }
theorem madeE {P : Program} {w : World} {K : PySem.W.Frag} {mg : Str → Option Value} {base : Heap} {N : List Str} {qual : Str} {scope : Scope} {f : Addr} {cd : Value} {A : Around} {outer : List Env} {s : Shared} {H : Hp} {E : XK} : MadeP (cxOf (CXE P w) P w K mg base N qual scope f cd A outer s H E) E := fun _ _ _ _ _ _ _ _ I hx hE => cx_made I hx hE
section
variable {X : Cx} {E : XK} {x : Str} {C : Addr} {np cpos pos : Pos} {e : Expr} {es : List Expr} {t : TA}
def tRaise (C : Addr) (E : XK) (t : TA) : TS := fun _ σ H => t σ H fun vs H1 => vs.length ≤ sizeLine ∧ E (.ref C) none H1
theorem ps_raise (hp : MadeP X E) (hc : X.calm = true) (q : ErrC X.K C) (hg : Gl X x) (hm : X.mg x = some (.ref C)) (ha : PA X (e :: es) t) (hdb : (x == ("__debug__" : Str)) = false := by decide)
    (he : starEach (e :: es) X.env = (false, eval e X.env) :: starEach es X.env := by rfl) (hpl : (backTo cpos (starEach es X.env)).any (·.1) = false := by rfl) :
    PS X (.Raise (some (.Call (.Name x np) (e :: es) [] cpos)) none pos) (tRaise C E t) := by
  intro pins s σ H D I h
  obtain ⟨tl, N, nm, q', bs, hdct, sn, sub, ab, col, dd, k0, k1, k2, k3, k5, mN, hC, hN, hni, T⟩ := (ErrC.own q I.mod.kin hm).obj
  refine wpAny_Raise_call_subT (C := C) (nm := nm) (q := q') (N := N) (bs := bs) (bm := tl) (hdct := hdct) (sn := sn) (sub := sub) (ab := ab) (col := col) (dd := dd) (k0 := k0) (k1 := k1) (k2 := k2) (k3 := k3) (k5 := k5)
    PySem.F.excBase_ValueError (mN := mN) (T.hasType PySem.F.excBase_ValueError.hasBase) (I.ok.hd hc) (by rw [he]; show (false || (backTo cpos (starEach es X.env)).any (·.1)) = false; rw [hpl]; rfl) hni (ld_glob I hg hm ⟨rfl, ?_⟩ hdb)
  have hs := ha cpos pins s σ H _ I h
  rw [he] at hs ⊢
  refine Calls.evalArgs_plain (thn hs fun us s1 ⟨vs, H1, I1, r, z, hE⟩ => ?_)
  exact ⟨rfl, by rw [← r.length]; exact z, I1.bk _ _ hC, hN.keeps I1.bk, T.keeps I1.bk, fun h' ea hx => hp pins σ H1 s1 h' ea (.ref C) us I1 hx hE⟩
end
def PassN (X : Cx) (N : Value → St → Hp → Prop) : Prop := ∀ (pins : List (Addr × Obj)) (σ : St) (H : Hp) (s : Shared) (e : Value) (s' : Shared), Inv X pins σ H s → CXE X.prog X.w X.stack H s (fun cls _ H' => N cls σ H') e s' → X.xe e s'
section
variable {X : Cx} {k : Nat} {f C : Addr} {fd : FuncData} {ps : List Str} {sp : Sp} {dvs : List V} {ds : List Value} {N : Value → St → Hp → Prop} {x m : Str} {p pos apos : Pos} {e o : Expr} {es : List Expr} {ta : TE} {t : TA}
theorem run_fnX {pins : List (Addr × Obj)} {σ : St} {H : Hp} {s : Shared} {Q : VK} {us : List Value} {vs : List V} (F : FnOk X.prog X.w X.K X.mg X.base (CXE X.prog X.w) k f fd ps sp) (hr : Room k X.A) (hb : Binds X.K fd ps ds) (hd : Vals dvs ds) (hx : PassN X N)
    (I : Inv X pins σ H s) (r : Vals vs us) (h : sp (vs ++ dvs) H Q (fun cls _ H' => N cls σ H')) : wpAny (model X.prog X.w) X.A (call (.ref f) us) (EP X pins σ Q) X.xe s := by
  have r2 : Vals (vs ++ dvs) (us ++ ds) := r.append hd
  have hl : (us ++ ds).length = ps.length := by rw [← r2.length]; exact F.len _ _ _ _ h
  refine wpAny_call (codeAny_mono (F.run X.A X.stack s H ⟨us, []⟩ (us ++ ds) (vs ++ dvs) Q _ hr I.env0 (hb s us I.kIn hl) r2 h) fun r s' hq => ?_)
  cases r with
  | error e => exact hx pins σ H s e s' I hq
  | ok fl =>
    cases fl with
    | ret u => exact I.after hq
    | next => exact False.elim hq
    | brk => exact False.elim hq
    | cont => exact False.elim hq
def tMethX (C : Addr) (m : Str) (sp : Sp) (dvs : List V) (N : Value → St → Hp → Prop) (ta : TE) (t : TA) : TE := fun σ H Q => ta σ H fun x H1 => ∃ a dx fs, x = .ref a ∧ H1 a = some (.ins C dx fs) ∧ fs.lookup m = none ∧
  t σ H1 fun vs H2 => sp (x :: (vs ++ dvs)) H2 Q (fun cls _ H' => N cls σ H')
theorem pe_methX {pl : Sem Bool} (he : PE X o ta) (c : Cls X.K C) (hm : Meth X.K C m f) (F : FnOk X.prog X.w X.K X.mg X.base (CXE X.prog X.w) k f fd ps sp) (hr : Room k X.A) (hb : Binds X.K fd ps ds) (hd : Vals dvs ds) (hx : PassN X N) (ha : PA X (e :: es) t)
    (hst : starEach (e :: es) X.env = (false, eval e X.env) :: starEach es X.env := by rfl) (hpl : (backTo pos (starEach es X.env)).any (·.1) = false := by rfl)
    (ht : eval (.Call (.Attribute o m apos) (e :: es) [] pos) X.env = (do
      let ov ← eval o X.env
      standAt apos.atName
      let (f, first) ← holding [ov] (getMethod ov m pl)
      callWith pos f first (backTo pos (starEach (e :: es) X.env)) (backToKw pos (keywordEach [] X.env))) := by rfl) :
    PE X (.Call (.Attribute o m apos) (e :: es) [] pos) (tMethX C m sp dvs N ta t) := by
  intro pins s σ H Q I h
  refine PySem.W.methodCall_KW (pl := pl) (thn (he pins s σ H _ I h) fun u s1 ⟨x, H1, I1, rx, a, dx, fs, ex, ea, l, q⟩ => ?_) ht
  subst ex
  obtain rfl : u = Value.ref a := rx
  refine getmeth_ok I1 ea c hm l ?_
  refine PySem.W.callWith_K (first := [.ref a]) (h₀ := X.base) I.ok.mod.kin hm.kp (thn (ha pos pins s1 σ H1 _ I1 q) fun us s2 ⟨vs, H2, I2, r, q2⟩ => ⟨I2.kIn, ?_⟩) hst hpl
  exact run_fnX (us := .ref a :: us) (vs := .ref a :: vs) F hr hb hd hx I2 (.cons rfl r) q2
theorem pe_methX0 {pl : Sem Bool} (he : PE X o ta) (c : Cls X.K C) (hm : Meth X.K C m f) (F : FnOk X.prog X.w X.K X.mg X.base (CXE X.prog X.w) k f fd ps sp) (hr : Room k X.A) (hb : Binds X.K fd ps ds) (hd : Vals dvs ds) (hx : PassN X N)
    (ht : eval (.Call (.Attribute o m apos) [] [] pos) X.env = (do
      let ov ← eval o X.env
      standAt apos.atName
      let (f, first) ← holding [ov] (getMethod ov m pl)
      callWith pos f first (backTo pos (starEach [] X.env)) (backToKw pos (keywordEach [] X.env))) := by rfl) :
    PE X (.Call (.Attribute o m apos) [] [] pos) (tMethX C m sp dvs N ta tNil) := by
  intro pins s σ H Q I h
  refine PySem.W.methodCall_KW (pl := pl) (thn (he pins s σ H _ I h) fun u s1 ⟨x, H1, I1, rx, a, dx, fs, ex, ea, l, q⟩ => ?_) ht
  subst ex
  obtain rfl : u = Value.ref a := rx
  refine getmeth_ok I1 ea c hm l ?_
  exact PySem.W.callWith_K0 (first := [.ref a]) I1.kIn hm.kp (run_fnX (us := [.ref a]) (vs := [.ref a]) F hr hb hd hx I1 (.cons rfl .nil) q)
end
abbrev Cx.caught (X : Cx) (e : Value) (pn : List (Addr × Obj)) : Cx := { X with A := X.A.mark (some e), calm := false, pn := pn, xe := fun _ _ => False }
abbrev Cx.trying (X : Cx) (pn : List (Addr × Obj)) (E : Value → Shared → Prop) : Cx := { X with pn := pn, xe := E }
theorem Inv.caught {X : Cx} {pins : List (Addr × Obj)} {σ : St} {H : Hp} {s : Shared} (I : Inv X pins σ H s) (e : Value) : Inv (X.caught e (X.pn ++ pins)) [] σ H s :=
  ⟨⟨I.ok.mod, I.ok.kind, I.ok.glob, I.ok.blt, I.ok.above, I.ok.inj, I.ok.has, I.ok.cab, (fun z => nomatch z), I.ok.frames, I.ok.stk, I.ok.exf, I.ok.bs, I.ok.bsz, I.ok.noex, I.ok.exfs, I.ok.funs, I.ok.frf⟩, I.os, I.bare, I.base, I.loc, I.cell, I.free, I.freeC, fun p hp => I.pin p (by simpa using hp), I.hok, I.len⟩
theorem Inv.uncaught {X : Cx} {pins : List (Addr × Obj)} {σ : St} {H : Hp} {s : Shared} {e : Value} (ok : X.Ok) (I : Inv (X.caught e (X.pn ++ pins)) [] σ H s) : Inv X pins σ H s :=
  ⟨ok, I.os, I.bare, I.base, I.loc, I.cell, I.free, I.freeC, fun p hp => I.pin p (by simpa using hp), I.hok, I.len⟩
theorem Inv.trying {X : Cx} {pins : List (Addr × Obj)} {σ : St} {H : Hp} {s : Shared} (I : Inv X pins σ H s) (E : Value → Shared → Prop) : Inv (X.trying (X.pn ++ pins) E) [] σ H s :=
  ⟨⟨I.ok.mod, I.ok.kind, I.ok.glob, I.ok.blt, I.ok.above, I.ok.inj, I.ok.has, I.ok.cab, I.ok.hd, I.ok.frames, I.ok.stk, I.ok.exf, I.ok.bs, I.ok.bsz, I.ok.noex, I.ok.exfs, I.ok.funs, I.ok.frf⟩, I.os, I.bare, I.base, I.loc, I.cell, I.free, I.freeC, fun p hp => I.pin p (by simpa using hp), I.hok, I.len⟩
theorem Inv.tried {X : Cx} {pins more : List (Addr × Obj)} {σ : St} {H : Hp} {s : Shared} {E : Value → Shared → Prop} (ok : X.Ok) (I : Inv (X.trying (X.pn ++ pins) E) more σ H s) : Inv X pins σ H s :=
  ⟨ok, I.os, I.bare, I.base, I.loc, I.cell, I.free, I.freeC, fun p hp => I.pin p (List.mem_append_left _ hp), I.hok, I.len⟩
def tHs (K : PySem.W.Frag) : List (Value × TS) → Value → Ends → St → Hp → Prop
  | [], _, _, _, _ => False
  | (c, th) :: r, cls, D, σ, H => ∃ b, PySem.W.exmOne K cls c = some b ∧ if b = true then th D σ H else tHs K r cls D σ H
inductive PHs (X : Cx) : List ExceptHandler → List (Value × TS) → Prop
  | nil : PHs X [] []
  | cons {x : Str} {c : Value} {np pos : Pos} {b₀ : Stmt} {suite : List Stmt} {th : TS} {hs : List ExceptHandler} {ths : List (Value × TS)} (hg : Gl X x) (hm : X.mg x = some c) (hd : (x == ("__debug__" : Str)) = false)
      (hb : ∀ e pn, PSs (X.caught e pn) (b₀ :: suite) th) (r : PHs X hs ths) : PHs X (.ExceptHandler (some (.Name x np)) none (b₀ :: suite) pos :: hs) ((c, th) :: ths)
section
variable {X : Cx} {pins : List (Addr × Obj)} {D : Ends}
theorem SP.map {X Y : Cx} {pins pins' : List (Addr × Obj)} {D : Ends} {f : Flow} {s : Shared} (k : ∀ σ H, Inv X pins σ H s → Inv Y pins' σ H s) (h : SP X pins D f s) : SP Y pins' D f s := by
  cases f with
  | next => obtain ⟨σ, H, I, q⟩ := h; exact ⟨σ, H, k _ _ I, q⟩
  | brk => obtain ⟨σ, H, I, q⟩ := h; exact ⟨σ, H, k _ _ I, q⟩
  | cont => obtain ⟨σ, H, I, q⟩ := h; exact ⟨σ, H, k _ _ I, q⟩
  | ret u => obtain ⟨v, σ, H, I, r, q⟩ := h; exact ⟨v, σ, H, k _ _ I, r, q⟩
theorem handle_all (hfr : X.env.frame = some X.env.locals) (hst : X.stack = X.env :: X.outer) {ea : Addr} {cls : Value} : ∀ {hs : List ExceptHandler} {ths : List (Value × TS)}, PHs X hs ths → ∀ {σ : St} {H : Hp} {s : Shared}, Arr X pins σ ea cls H s → tHs X.K ths cls D σ H →
    wpAny (model X.prog X.w) X.A (handleBy (.ref ea) X.env hs) (SP X pins D) X.xe s
  | _, _, .nil, _, _, _, _, h => h.elim
  | _, _, .cons (x := x) (c := c) (b₀ := b₀) (suite := suite) (th := th) hg hm hd hb r, σ, H, s, a, h => by
    obtain ⟨I, H1, s1, I1, B, a0, fl, c1, c2⟩ := a
    obtain ⟨b, hx, hq⟩ := h
    refine wpAny_handleBy_cons ?_ (by intro q; cases q)
    refine codeAny_handlers_test ?_
    have Ic := I.caught (.ref ea)
    refine ld_glob (X := X.caught (.ref ea) (X.pn ++ pins)) Ic hg hm ?_ hd
    obtain ⟨ob, hob, hc⟩ := fl.there
    have LT : PySem.W.Looks (model X.prog X.w) s.heap (typeOf (.ref ea)) cls := by
      subst hc
      exact (PySem.W.Looks.ld hob).andThen .now
    refine (PySem.W.exm_one I.kIn LT hx).here ?_
    cases b with
    | false =>
      exact handle_all hfr hst r ⟨I, H1, s1, I1, B, a0, fl, c1, c2⟩ (by simpa using hq)
    | true =>
      rw [if_pos rfl] at hq
      refine codeAny_handlers_suite ?_
      refine lands_againW fl fun h6 fl6 up6 => ?_
      have I6 : Inv X pins σ H { s with heap := h6 } := Inv.fly I1 I fl.1 fl6.1 up6 c1 c2
      refine noted_of (thn (hb (.ref ea) (X.pn ++ pins) [] _ σ H D (I6.caught _) hq) fun f s2 h2 => ?_)
      exact SP.map (fun _ _ J => J.uncaught I.ok) h2
def lookX (X : Cx) (pins : List (Addr × Obj)) (D : Ends) (hs : List ExceptHandler) : Value → Shared → Prop := fun e s1 => wpAny (model X.prog X.w) X.A (noteFrame e X.env) (fun _ s2 => wpAny (model X.prog X.w) X.A (setFlight e none) (fun _ s3 =>
  wpAny (model X.prog X.w) X.A (handleBy e X.env hs) (SP X pins D) X.xe s3) X.xe s2) X.xe s1
def tTry (K : PySem.W.Frag) (tb : (Value → St → Hp → Prop) → TS) (ths : List (Value × TS)) : TS := fun D σ H => tb (fun cls σ' H' => tHs K ths cls D σ' H') D σ H
theorem ps_try {body : List Stmt} {h₀ : ExceptHandler} {hs : List ExceptHandler} {ths : List (Value × TS)} {tb : (Value → St → Hp → Prop) → TS} {pos : Pos} (hfr : X.env.frame = some X.env.locals) (hst : X.stack = X.env :: X.outer)
    (hb : ∀ N pn xe, PassN (X.trying pn xe) N → PSs (X.trying pn xe) body (tb N)) (hh : PHs X (h₀ :: hs) ths) : PS X (.Try body (h₀ :: hs) [] [] pos) (tTry X.K tb ths) := by
  intro pins s σ H D I h
  refine wpAny_Try_except ?_
  have pass : PassN (X.trying (X.pn ++ pins) (lookX X pins D (h₀ :: hs))) (fun cls σ' H' => tHs X.K ths cls D σ' H') := fun pins' σ' H1 s1 e s' I' hx => by
    obtain ⟨ea, cls, H', rfl, a, hN⟩ := arr_of I' hx
    obtain ⟨J, H2, s2, J2, B, a0, fl, c1, c2⟩ := a
    have J' : Inv X pins σ' H' s' := J.tried I.ok
    have J2' : Inv X pins σ' H2 s2 := J2.tried I.ok
    have fl : Heap.FlyingW B X.stack ea cls a0 s'.heap := fl
    have c1 : ∀ b o, s2.heap.get? b = some o → b ∉ frs X.stack → ∃ o', B.get? b = some o' := c1
    rw [hst] at fl
    refine wpAny_looks_onW (A := X.A) (by rw [I.ok.frames, hst]) hfr fl fun h4 held4 up4 => ?_
    refine wpAny_landsW held4 fun h5 fl5 up5 => ?_
    have up := up4.trans up5
    have I5 : Inv X pins σ' H' { s' with heap := h5 } := Inv.fly J2' J' fl.1 fl5.1 up c1 c2
    refine handle_all hfr hst hh ⟨I5, H2, s2, J2', B, a0, by rw [hst]; exact fl5, c1, c2⟩ hN
  refine wpAny_mono (hb _ _ _ pass [] s σ H D (I.trying _) h) (fun f s1 h1 => ?_) fun e s1 h1 => h1
  have h1 : SP X pins D f s1 := SP.map (fun _ _ J => J.tried I.ok) h1
  cases f with
  | next => exact wpAny_execs_nil h1
  | brk => exact h1
  | cont => exact h1
  | ret u => exact h1
end
end L2
set_option Elab.async false
set_option linter.all false
set_option maxRecDepth 100000
set_option maxHeartbeats 4000000
namespace L2
open PySem PySem.Spec PyProof.Rows
theorem vals_of : ∀ {us : List Value} {ns : List Int}, IntsAre us ns → Vals (ns.map V.int) us
  | _, _, .nil => .nil
  | _, _, .cons n t r => .cons ⟨t, rfl⟩ (vals_of r)
section
variable {X : Cx}
theorem sort_end {pins : List (Addr × Obj)} {σ : St} {H : Hp} {s : Shared} {Q : VK} {ns ns' : List Int} {out : List Value} {h' : Heap} {D : Addr} {c tk : Nat} (I : Inv X pins σ H s) (hD : s.heap.objs.size ≤ D) (kp : ∀ b o, s.heap.get? b = some o → h'.get? b = some o)
    (hat : h'.get? D = some (seqObj "list" out.toArray c)) (a1 : IntsAre out ns') (a2 : ns'.Perm ns) (hl : ns.length < 64) (q : H D = none → Same H (upd H D (.lst (ns'.map V.int))) → upd H D (.lst (ns'.map V.int)) D = some (.lst (ns'.map V.int)) → Q (.ref D) (upd H D (.lst (ns'.map V.int)))) :
    EP X pins σ Q (.ref D) { s with heap := h', toks := tk } := by
  have hfr : H D = none := I.hok.fresh hD
  have hv := vals_of a1
  refine ⟨.ref D, _, I.laid (t' := tk) (o := .lst (ns'.map V.int)) kp hD ⟨by rw [List.length_map, a2.length_eq, PySem.sizeLine_eq]; omega, out, c, hv, hat⟩, rfl, q hfr (same_upd hfr) upd_same⟩
def rSortD (K : PySem.W.Frag) : List V → Hp → VK → Prop := fun xs H Q => ∃ d, xs = [.ref d] ∧ ∃ (kvs : List (Key × V)) (ks : List Int), H d = some (.dK kvs) ∧ kvs.map (·.1) = ks.map Sum.inl ∧ ks.length < 64 ∧
  ∀ (D : Addr) (H' : Hp) (ks' : List Int), H D = none → Same H H' → H' D = some (.lst (ks'.map V.int)) → ks'.Perm ks → ks'.Pairwise (· ≤ ·) → Q (.ref D) H'
theorem ints_of_keys : ∀ {us : List Value} {ks : List Int}, us.length = ks.length → (∀ (j : Nat) (u : Value), us[j]? = some u → ∃ k : Int, ks[j]? = some k ∧ ∃ t, u = Value.int k t) → IntsAre us ks
  | [], [], _, _ => .nil
  | [], _ :: _, h, _ => by simp at h
  | _ :: _, [], h, _ => by simp at h
  | u :: us, k :: ks, h, hj => by
    obtain ⟨k', e1, t, e2⟩ := hj 0 u rfl
    have e1 : k = k' := by simpa using e1
    subst e1 e2
    exact .cons k t (ints_of_keys (by simpa using h) fun j u hu => by simpa using hj (j + 1) u (by simpa using hu))
theorem call_sortedD (hc : X.calm = true) : CallR X (.builtin "sorted") (rSortD X.K) := by
  intro pins s σ H xs us Q I r h
  obtain ⟨d, rfl, kvs, ks, hd, hk, h64, q⟩ := h
  obtain ⟨u, rfl, ru⟩ := vals1 r
  cases ru
  obtain ⟨hz, lo, vs, kv, hD⟩ := I.hok d _ hd
  obtain ⟨ep, hat⟩ := hD.dictAt
  have lkv := Paired.length kv
  have lks : kvs.length = ks.length := by have := congrArg List.length hk; simpa using this
  refine Calls.call_function_entry kind_sorted plain_sorted entry_sorted (args_sorted1 _) ?_
  unfold Builtin.«sorted»
  refine wpAny_bind (m := checkCount "sorted" 1 1 _) (wpAny_pure ?_)
  refine wpAny_bind (PySem.W.kdu_collect (A := X.A.in1) (PySem.W.kdl_dict (knd := mixKind X.prog X.w) (kvs := vs) (ep := ep) lo) (I.ok.hd hc) hat (by rw [← lkv]; exact hz) fun h' tk acc hkk hacc => ?_)
  have hint : IntsAre acc.toList ks := by
    refine ints_of_keys (by rw [Array.length_toList, hacc.1, ← lkv, lks]) fun j u hu => ?_
    obtain ⟨k, x, hx, hki⟩ := hacc.2 j u (by rw [← Array.getElem?_toList]; exact hu)
    have hj : j < kvs.length := by
      have := (List.getElem?_eq_some_iff.mp hx).1
      omega
    obtain ⟨p, hp, e1, e2⟩ := (show ∃ p, kvs[j]? = some p ∧ p.1 = k ∧ RelV p.2 x from by
      obtain ⟨p, h1, h2⟩ := TG.Paired.get kv hx
      exact ⟨p, h1, h2⟩)
    have hkj : (ks.map (Sum.inl : Int → Key))[j]? = some k := by rw [← hk, List.getElem?_map, hp]; exact congrArg some e1
    rw [List.getElem?_map] at hkj
    obtain ⟨i, hi, rfl⟩ := Option.map_eq_some_iff.mp hkj
    refine ⟨i, hi, ?_⟩
    have hki : keyIs (Sum.inl i) u = true := hki
    rcases keyIs_shape hki with ⟨i', t, e3, e4⟩ | ⟨y, t, e3, e4⟩
    · injection e3 with e3
      subst e3
      exact ⟨t, e4⟩
    · cases e3
  have hal : acc.toList.length = ks.length := by rw [Array.length_toList, hacc.1, ← lkv, lks]
  refine wpAny_bind (wpAny_newList ?_ (by rw [hal, PySem.sizeLine_eq]; omega))
  have hoL : (h'.push (seqObj "list" acc.toList.toArray 0)).get? h'.objs.size = some (seqObj "list" acc.toList.toArray 0) := Heap.get?_push_size _ rfl
  show wpAny _ _ _ _ _ { s with heap := h'.push (seqObj "list" acc.toList.toArray 0), toks := tk }
  refine wpAny_bind (wpAny_holding (wpAny_call_entry slot_list_sort ⟨_, hoL, rfl⟩ entry_list_sort (list_sort_tree hoL hint (by omega) fun out ns' a1 a2 a3 => ⟨_, rfl, ?_⟩) (args_list_sort _)))
  obtain ⟨e, he⟩ := sortedHeap_at (vs := acc.toList) (out := out) hoL
  have I' : Inv X pins σ H { s with heap := h', toks := tk } := I.kept hkk
  refine wpAny_pure ⟨_, rfl, sort_end (s := { s with heap := h', toks := tk }) (tk := tk) I' (Nat.le_refl _) (fun b o q' => ?_) (by rw [he]) a1 a2 h64 fun n1 n2 n3 => q _ _ _ n1 n2 n3 a2 a3⟩
  have q' : h'.get? b = some o := q'
  have hlt := Heap.lt_size q'
  refine (sortedHeap_old (Nat.ne_of_lt hlt) (by rw [size_push']; exact Nat.lt_succ_of_lt hlt)).trans ?_
  exact Heap.get?_push_of_some _ q'
end
end L2
set_option Elab.async false
set_option linter.all false
set_option maxRecDepth 100000
set_option maxHeartbeats 4000000
namespace L2
open PySem
theorem len0 {α : Type} {us : List α} (h : us.length = 0) : us = [] := List.length_eq_zero_iff.mp h
theorem lenS {α : Type} {us : List α} {n : Nat} (h : us.length = n + 1) : ∃ a r, us = a :: r ∧ r.length = n := by
  cases us with
  | nil => cases h
  | cons a r => exact ⟨a, r, rfl, Nat.succ.inj h⟩
theorem len1 {α : Type} {us : List α} (h : us.length = 1) : ∃ a, us = [a] := by
  obtain ⟨a, r, rfl, h'⟩ := lenS h; cases len0 h'; exact ⟨a, rfl⟩
theorem len2 {α : Type} {us : List α} (h : us.length = 2) : ∃ a b, us = [a, b] := by
  obtain ⟨a, r, rfl, h'⟩ := lenS h; obtain ⟨b, rfl⟩ := len1 h'; exact ⟨a, b, rfl⟩
theorem len3 {α : Type} {us : List α} (h : us.length = 3) : ∃ a b c, us = [a, b, c] := by
  obtain ⟨a, r, rfl, h'⟩ := lenS h; obtain ⟨b, c, rfl⟩ := len2 h'; exact ⟨a, b, c, rfl⟩
theorem len4 {α : Type} {us : List α} (h : us.length = 4) : ∃ a b c d, us = [a, b, c, d] := by
  obtain ⟨a, r, rfl, h'⟩ := lenS h; obtain ⟨b, c, d, rfl⟩ := len3 h'; exact ⟨a, b, c, d, rfl⟩
theorem len5 {α : Type} {us : List α} (h : us.length = 5) : ∃ a b c d e, us = [a, b, c, d, e] := by
  obtain ⟨a, r, rfl, h'⟩ := lenS h; obtain ⟨b, c, d, e, rfl⟩ := len4 h'; exact ⟨a, b, c, d, e, rfl⟩
end L2
namespace TG
open PySem L2
inductive Err where
  | nogate | taken | upside | bounds | full | deeds | nothing | badlist | few | size | badthrow | badrow
  deriving DecidableEq
def Kp (b P : Addr) (H H' : Hp) : Prop := ∀ a u, a ≠ b → a ≠ P → H a = some u → H' a = some u
theorem Kp.of {b P : Addr} {H H' : Hp} (s : Same H H') : Kp b P H H' := fun a u _ _ e => s a u e
theorem Kp.trans {b P : Addr} {H H1 H2 : Hp} (k : Kp b P H H1) (k' : Kp b P H1 H2) : Kp b P H H2 := fun a u h1 h2 e => k' a u h1 h2 (k a u h1 h2 e)
theorem Kp.upd {b P a : Addr} {H H1 : Hp} {o : HO} (k : Kp b P H H1) (h : a = b ∨ a = P) : Kp b P H (L2.upd H1 a o) := fun c u h1 h2 e => by
  have hc : c ≠ a := by rcases h with rfl | rfl <;> assumption
  rw [upd_ne hc]
  exact k c u h1 h2 e
def LgAt (H : Hp) (l : Addr) (gs : List G) : Prop := ∃ as : List Addr, H l = some (.lst (as.map V.ref)) ∧ GsAt H as gs
structure Std (gs : List G) : Prop where
  asc : Asc gs
  ok : ∀ g ∈ gs, OkG g
  len : gs.length ≤ 40
theorem asc_nodup {gs : List G} (h : Asc gs) : (gs.map G.p).Nodup := by
  unfold List.Nodup
  rw [List.pairwise_map]
  exact h.imp fun {a b} h z => by omega
theorem Std.nd {gs : List G} (h : Std gs) : (gs.map G.p).Nodup := asc_nodup h.asc
structure Bch (C : Addr) (H : Hp) (b S P : Addr) (ow : List Addr) (gs : List G) (past : List (List G)) : Prop where
  at_ : ∃ dx, H b = some (.ins C dx [("standing", .ref S), ("past", .ref P)])
  st : LgAt H S gs
  pa : ∃ ps : List Addr, H P = some (.lst (ps.map V.ref)) ∧ Paired (LgAt H) ps past ∧ (∀ p ∈ ps, p ∈ ow ∧ p ≠ P)
  sp : S ≠ P
  so : S ∈ ow
  po : P ∈ ow
  std : Std gs
  stds : ∀ x ∈ past, Std x
  len : past.length ≤ 300
  lv : ∀ a ∈ ow, ∃ xs, H a = some (.lst xs)
theorem GsAt.keep {H H' : Hp} {as : List Addr} {gs : List G} (h : GsAt H as gs) (k : ∀ a xs, H a = some (.tup xs) → H' a = some (.tup xs)) : GsAt H' as gs := by
  unfold GsAt at *
  induction h with
  | nil => exact .nil
  | cons e _ ih => exact .cons (k _ _ e) ih
theorem LgAt.keep {H H' : Hp} {l : Addr} {gs : List G} (h : LgAt H l gs) (kl : ∀ u, H l = some u → H' l = some u) (k : ∀ a xs, H a = some (.tup xs) → H' a = some (.tup xs)) : LgAt H' l gs := by
  obtain ⟨as, e, g⟩ := h
  exact ⟨as, kl _ e, g.keep k⟩
theorem Paired.keepM {α β : Type} {F F' : α → β → Prop} : ∀ {xs : List α} {ys : List β}, Paired F xs ys → (∀ x y, x ∈ xs → F x y → F' x y) → Paired F' xs ys
  | _, _, .nil, _ => .nil
  | _, _, .cons e r, k => .cons (k _ _ List.mem_cons_self e) (Paired.keepM r fun x y h => k x y (List.mem_cons_of_mem _ h))
theorem Paired.takeP {α β : Type} {F : α → β → Prop} : ∀ {xs : List α} {ys : List β}, Paired F xs ys → ∀ n, Paired F (xs.take n) (ys.take n)
  | _, _, .nil, n => by simp only [List.take_nil]; exact .nil
  | _, _, .cons e r, 0 => .nil
  | _, _, .cons e r, n + 1 => .cons e (Paired.takeP r n)
theorem Bch.keep {C : Addr} {H H' : Hp} {b S P : Addr} {ow : List Addr} {gs : List G} {past : List (List G)} (h : Bch C H b S P ow gs past) (k : ∀ a u, (a = b ∨ a ∈ ow ∨ ∃ xs, u = .tup xs) → H a = some u → H' a = some u) : Bch C H' b S P ow gs past := by
  have kt : ∀ a xs, H a = some (.tup xs) → H' a = some (.tup xs) := fun a xs e => k a _ (.inr (.inr ⟨xs, rfl⟩)) e
  obtain ⟨dx, e⟩ := h.at_
  obtain ⟨ps, e2, pr, hm⟩ := h.pa
  exact ⟨⟨dx, k _ _ (.inl rfl) e⟩, h.st.keep (fun u e => k _ u (.inr (.inl h.so)) e) kt, ⟨ps, k _ _ (.inr (.inl h.po)) e2, Paired.keepM pr fun x y hx q => q.keep (fun u e => k _ u (.inr (.inl (hm x hx).1)) e) kt, hm⟩, h.sp, h.so, h.po, h.std, h.stds, h.len, fun a ha => (h.lv a ha).imp fun xs e => k a _ (.inr (.inl ha)) e⟩
theorem Bch.same {C : Addr} {H H' : Hp} {b S P : Addr} {ow : List Addr} {gs : List G} {past : List (List G)} (h : Bch C H b S P ow gs past) (s : Same H H') : Bch C H' b S P ow gs past := h.keep fun a u _ e => s a u e
def put1 (gs : List G) (p : Int) (o : List G) : List G := (gs.filter fun g => decide (g.p < p)) ++ (o ++ (gs.filter fun g => decide (p < g.p)))
theorem asc_put1 {gs : List G} {p : Int} {o : List G} (h : Asc gs) (ho : Asc o) (hp : ∀ g ∈ o, g.p = p) : Asc (put1 gs p o) := by
  unfold put1 Asc at *
  refine List.pairwise_append.mpr ⟨h.filter _, List.pairwise_append.mpr ⟨ho, h.filter _, fun a ha b hb => ?_⟩, fun a ha b hb => ?_⟩
  · have := of_decide_eq_true (List.mem_filter.mp hb).2
    rw [hp a ha]; exact this
  · have h1 := of_decide_eq_true (List.mem_filter.mp ha).2
    rcases List.mem_append.mp hb with z | z
    · rw [hp b z]; exact h1
    · have := of_decide_eq_true (List.mem_filter.mp z).2
      omega
theorem mem_put1 {gs : List G} {p : Int} {o : List G} {g : G} : g ∈ put1 gs p o ↔ (g ∈ gs ∧ g.p ≠ p) ∨ g ∈ o := by
  unfold put1
  simp only [List.mem_append, List.mem_filter, decide_eq_true_eq]
  constructor
  · rintro (⟨h, q⟩ | h | ⟨h, q⟩)
    · exact .inl ⟨h, by omega⟩
    · exact .inr h
    · exact .inl ⟨h, by omega⟩
  · rintro (⟨h, q⟩ | h)
    · rcases Int.lt_or_gt_of_ne q with z | z
      · exact .inl ⟨h, z⟩
      · exact .inr (.inr ⟨h, z⟩)
    · exact .inr (.inl h)
theorem perm_put1 {gs : List G} {p : Int} {o : List G} : (put1 gs p o).Perm ((gs.filter fun g => !decide (g.p = p)) ++ o) := by
  unfold put1
  have h : ((gs.filter fun g => decide (g.p < p)) ++ (gs.filter fun g => decide (p < g.p))).Perm (gs.filter fun g => !decide (g.p = p)) := by
    induction gs with
    | nil => exact List.Perm.refl _
    | cons a gs ih =>
      simp only [List.filter_cons]
      rcases Int.lt_trichotomy a.p p with z | z | z
      · simp only [decide_eq_true z, show decide (p < a.p) = false from decide_eq_false (by omega), show decide (a.p = p) = false from decide_eq_false (by omega), if_true, Bool.not_false, Bool.false_eq_true, if_false, List.cons_append]
        exact ih.cons _
      · simp only [show decide (a.p < p) = false from decide_eq_false (by omega), show decide (p < a.p) = false from decide_eq_false (by omega), decide_eq_true z, Bool.not_true, Bool.false_eq_true, if_false]
        exact ih
      · simp only [show decide (a.p < p) = false from decide_eq_false (by omega), decide_eq_true z, show decide (a.p = p) = false from decide_eq_false (by omega), if_true, Bool.not_false, Bool.false_eq_true, if_false]
        exact List.perm_middle.trans (ih.cons _)
  exact (List.perm_append_comm_assoc _ _ _).trans ((h.append_left o).trans List.perm_append_comm)
theorem len_put1 {gs : List G} {p : Int} {o : List G} : (put1 gs p o).length = (gs.filter fun g => !decide (g.p = p)).length + o.length := by
  rw [perm_put1.length_eq, List.length_append]
abbrev places (gs : List G) : List Int := gs.map G.p
def gateOf (gs : List G) (p : Int) : Option G := gs.find? fun g => decide (g.p = p)
theorem gateOf_some {gs : List G} {p : Int} {g : G} (h : gateOf gs p = some g) : g ∈ gs ∧ g.p = p := by
  have h1 := List.mem_of_find?_eq_some h
  have h2 := List.find?_some h
  exact ⟨h1, of_decide_eq_true h2⟩
theorem gateOf_none {gs : List G} {p : Int} : gateOf gs p = none ↔ p ∉ places gs := by
  unfold gateOf places
  rw [List.find?_eq_none]
  constructor
  · intro h z
    obtain ⟨g, hg, e⟩ := List.mem_map.mp z
    exact h g hg (decide_eq_true e)
  · intro h g hg z
    exact h (List.mem_map.mpr ⟨g, hg, of_decide_eq_true z⟩)
theorem gateOf_eq {gs : List G} (ha : Asc gs) {g : G} (hg : g ∈ gs) : gateOf gs g.p = some g := by
  cases h : gateOf gs g.p with
  | none => exact absurd (List.mem_map.mpr ⟨g, hg, rfl⟩) (gateOf_none.mp h)
  | some x =>
    obtain ⟨h1, h2⟩ := gateOf_some h
    rw [asc_uniq ha h1 hg h2]
abbrev InB (x : Int) : Prop := -1000 ≤ x ∧ x ≤ 1000
def gateE (p f h : Int) : Option Err := if h < f then some .upside else if InB p ∧ InB f ∧ InB h then none else some .bounds
theorem gateE_none {p f h : Int} : gateE p f h = none ↔ OkG ⟨p, f, h⟩ := by
  unfold gateE
  constructor
  · intro z
    split at z
    · cases z
    · split at z
      · rename_i h1 h2
        obtain ⟨⟨a, b⟩, ⟨c, d⟩, e, f1⟩ := h2
        exact ⟨a, b, c, by show f ≤ h; omega, f1⟩
      · cases z
  · rintro ⟨a, b, c, d, e⟩
    rw [if_neg (by simp only at *; omega), if_pos (by simp only at *; unfold InB; omega)]
def putE (gs : List G) (past : List (List G)) (p f h : Int) : Option Err :=
  if p ∈ places gs then some .taken else (gateE p f h).or (if 40 ≤ gs.length then some .full else if 300 ≤ past.length then some .deeds else none)
def deedsE (past : List (List G)) : Option Err := if 300 ≤ past.length then some .deeds else none
def takeE (gs : List G) (past : List (List G)) (p : Int) : Option Err := if p ∈ places gs then deedsE past else some .nogate
def liftE (gs : List G) (past : List (List G)) (p x y : Int) : Option Err := match gateOf gs p with
  | none => some .nogate
  | some g => (gateE p (g.f + x) (g.h + y)).or (deedsE past)
def backE (past : List (List G)) (n : Int) : Option Err := if n < 1 then some .bounds else if past.length < n then some .nothing else none
theorem Std.put {gs : List G} {p f h : Int} (s : Std gs) (ok : OkG ⟨p, f, h⟩) (hl : (gs.filter fun g => !decide (g.p = p)).length < 40) : Std (put1 gs p [⟨p, f, h⟩]) where
  asc := asc_put1 s.asc (List.pairwise_singleton ..) fun g hg => by rw [List.mem_singleton.mp hg]
  ok := fun g hg => by
    rcases mem_put1.mp hg with z | z
    · exact s.ok g z.1
    · rw [List.mem_singleton.mp z]; exact ok
  len := by rw [len_put1]; simp only [List.length_singleton]; omega
theorem Std.take {gs : List G} {p : Int} (s : Std gs) : Std (put1 gs p []) where
  asc := asc_put1 s.asc List.Pairwise.nil fun g hg => absurd hg (by simp)
  ok := fun g hg => by
    rcases mem_put1.mp hg with z | z
    · exact s.ok g z.1
    · exact absurd z (by simp)
  len := by
    rw [len_put1]
    have := List.length_filter_le (fun g : G => !decide (g.p = p)) gs
    have := s.len
    simp only [List.length_nil]; omega
theorem flt_lt {gs : List G} {g : G} (hg : g ∈ gs) : (gs.filter fun x => !decide (x.p = g.p)).length < gs.length :=
  List.length_filter_lt_length_iff_exists.mpr ⟨g, hg, by simp⟩
theorem flt_same {gs : List G} {p : Int} (hp : p ∉ places gs) : (gs.filter fun x => !decide (x.p = p)) = gs :=
  List.filter_eq_self.mpr fun g hg => by
    rw [decide_eq_false (fun z => hp (List.mem_map.mpr ⟨g, hg, z⟩))]; rfl
theorem Bch.off {C : Addr} {H : Hp} {b S P : Addr} {ow : List Addr} {gs : List G} {past : List (List G)} (h : Bch C H b S P ow gs past) {a : Addr} (n : H a = none) : a ∉ ow := fun z => by
  obtain ⟨_, e⟩ := h.lv a z
  rw [n] at e; cases e
theorem Bch.nep {C : Addr} {H : Hp} {b S P : Addr} {ow : List Addr} {gs : List G} {past : List (List G)} (h : Bch C H b S P ow gs past) {a : Addr} {u : HO} (e : H a = some u) (hu : ∀ xs, u ≠ .lst xs) : a ≠ P := fun z => by
  obtain ⟨_, e', _⟩ := h.pa
  rw [z, e'] at e; exact hu _ (Option.some.inj e).symm
theorem Bch.neb {C : Addr} {H : Hp} {b S P : Addr} {ow : List Addr} {gs : List G} {past : List (List G)} (h : Bch C H b S P ow gs past) {a : Addr} {u : HO} (e : H a = some u) (hu : ∀ C dx fs, u ≠ .ins C dx fs) : a ≠ b := fun z => by
  obtain ⟨_, e'⟩ := h.at_
  rw [z, e'] at e; exact hu _ _ _ (Option.some.inj e).symm
theorem Bch.tup {C : Addr} {H H' : Hp} {b S P : Addr} {ow : List Addr} {gs : List G} {past : List (List G)} (h : Bch C H b S P ow gs past) (k : Kp b P H H') {a : Addr} {xs : List V} (e : H a = some (.tup xs)) : H' a = some (.tup xs) :=
  k a _ (h.neb e fun _ _ _ z => by cases z) (h.nep e fun _ z => by cases z) e
theorem Bch.dk {C : Addr} {H H' : Hp} {b S P : Addr} {ow : List Addr} {gs : List G} {past : List (List G)} (h : Bch C H b S P ow gs past) (k : Kp b P H H') {a : Addr} {xs : List (Key × V)} (e : H a = some (.dK xs)) : H' a = some (.dK xs) :=
  k a _ (h.neb e fun _ _ _ z => by cases z) (h.nep e fun _ z => by cases z) e
theorem Bch.lst {C : Addr} {H H' : Hp} {b S P : Addr} {ow : List Addr} {gs : List G} {past : List (List G)} (h : Bch C H b S P ow gs past) (k : Kp b P H H') {a : Addr} {xs : List V} (e : H a = some (.lst xs)) (ha : a ∉ ow) : H' a = some (.lst xs) :=
  k a _ (h.neb e fun _ _ _ z => by cases z) (fun z => ha (z ▸ h.po)) e
theorem off_of {ow ow' : List Addr} {H : Hp} (o : ∀ a ∈ ow', a ∈ ow ∨ H a = none) {a : Addr} {u : HO} (e : H a = some u) (ha : a ∉ ow) : a ∉ ow' := fun z => by
  rcases o a z with z | z
  · exact ha z
  · rw [z] at e; cases e
theorem inV_int {p : Int} : ∀ l : List Int, inV (.int p) (l.map V.int) = decide (p ∈ l)
  | [] => rfl
  | a :: l => by
    show (eqV (.int a) (.int p) || inV (.int p) (l.map V.int)) = _
    rw [inV_int l]
    have e : eqV (.int a) (.int p) = decide (p = a) := by
      show decide (a = p) = decide (p = a)
      exact decide_eq_decide.mpr eq_comm
    rw [e, ← Bool.decide_or]
    exact decide_eq_decide.mpr List.mem_cons.symm
theorem flat_int (l : List Int) : (l.map V.int).all flatV = true := by
  rw [List.all_eq_true]
  intro x hx
  obtain ⟨i, _, rfl⟩ := List.mem_map.mp hx
  rfl
theorem flt_true {gs : List G} : (gs.filter fun _ => true) = gs := List.filter_eq_self.mpr fun _ _ => rfl
end TG
set_option Elab.async false
set_option linter.all false
set_option maxRecDepth 100000
set_option maxHeartbeats 4000000
namespace L2
open PySem PySem.Spec PyProof.Rows
section
variable {prog : Program} {w : World} {A : Around} {E : Value → Shared → Prop} {s : Shared}
theorem draw_list {it t : Addr} {items : Array Value} (hne : t ≠ it) : ∀ (n i : Nat) (s : Shared) (Q : List Value → Shared → Prop), s.heap.IsListIter it t i → s.heap.IsList t items → i + n ≤ items.size →
    (∀ h', h'.IsListIter it t (i + n) → Heap.SameBut it s.heap h' → Q ((items.toList.drop i).take n) { s with heap := h' }) → wpAny (model prog w) A (draw (.ref it) n) Q E s
  | 0, i, s, Q, hit, _, _, hQ => by
    show wpAny _ _ (pure []) Q E s
    exact wpAny_pure (by simpa using hQ s.heap hit (Heap.SameBut.refl ..))
  | n + 1, i, s, Q, hit, ht, hle, hQ => by
    have hlt : i < items.size := by omega
    show wpAny _ _ (pyNext (.ref it) >>= _) Q E s
    refine wpAny_bind (wpAny_pyNext_list_item hit ht (x := items[i]) (by simp [hlt]) fun h₁ hit₁ hs₁ => ?_)
    refine wpAny_bind (wpAny_holding (draw_list hne n (i + 1) _ _ hit₁ (ht.at fun o e => (hs₁.2 t hne).trans e) (by omega) fun h₂ hit₂ hs₂ => wpAny_pure ?_))
    have hd : items.toList.drop i = items[i] :: items.toList.drop (i + 1) := by simp [List.drop_eq_getElem_cons, hlt]
    have := hQ h₂ (by rw [show i + (n + 1) = i + 1 + n by omega]; exact hit₂) (hs₁.trans hs₂)
    rw [hd, List.take_succ_cons] at this
    exact this
theorem unpackItems_list {t : Addr} {items : Array Value} {Q : List Value → Shared → Prop} (hh : A.handled = none) (ht : s.heap.IsList t items)
    (hQ : ∀ h', Heap.ExtBut s.heap.objs.size s.heap h' → Q items.toList { s with heap := h' }) : wpAny (model prog w) A (unpackItems (.ref t) items.size none) Q E s := by
  have hlt : t ≠ s.heap.objs.size := by obtain ⟨o, ho, _⟩ := ht; exact Nat.ne_of_lt (Heap.lt_size ho)
  unfold unpackItems
  refine wpAny_bind ?_
  · unfold notIterableAtAll
    refine wpAny_bind (wpAny_specialOf ht.typeIs slot_list_iter.lookup ?_)
    refine wpAny_pure ?_
    simp only [Bool.false_eq_true, if_false]
    refine wpAny_bind (wpAny_holding (wpAny_pyIter_list ht ?_))
    refine wpAny_bind (wpAny_holding (draw_list hlt items.size 0 _ _ ⟨_, Heap.get?_push_size _ rfl, rfl, rfl⟩ (ht.at fun o e => Heap.get?_push_of_some _ e) (by omega) fun h₁ hit₁ hs₁ => ?_))
    have hall : List.take items.size (List.drop 0 items.toList) = items.toList := by
      rw [List.drop_zero]; exact List.take_of_length_le (by simp)
    rw [hall]
    rw [if_neg (by simp)]
    have ht₁ : h₁.IsList t items := ht.at fun o e => (hs₁.2 t hlt).trans (Heap.get?_push_of_some _ e)
    refine wpAny_bind (wpAny_holding (wpAny_pyNext_list_end hh hit₁ ht₁ (by simp) fun h₂ he₂ => ?_))
    simp only [Option.isSome_none, Bool.false_eq_true, if_false]
    refine wpAny_pure (hQ h₂ fun b o hb e => he₂ b o hb (hs₁.extBut b o hb (Heap.get?_push_of_some _ e)))
theorem assign_Tuple_list {env : Env} {elts : List Expr} {x1} {pos : Pos} {t : Addr} {items : Array Value} {Q : Unit → Shared → Prop} (hh : A.handled = none) (ht : s.heap.IsList t items)
    (hn : (assignEach elts env).length = items.size) (hstar : (assignEach elts env).findIdx? (·.1) = none)
    (h : ∀ h', Heap.ExtBut s.heap.objs.size s.heap h' → wpAny (model prog w) A (assignInOrder ((assignEach elts env).map (·.2)) items.toList) Q E { s with heap := h' }) :
    wpAny (model prog w) A (assign (.Tuple elts x1 pos) env (.ref t)) Q E s := by
  rw [assign_Tuple]
  refine wpAny_bind (wpAny_standAt ?_)
  unfold unpack
  rw [hn, hstar]
  exact wpAny_bind (wpAny_holding (unpackItems_list hh ht h))
end
section
variable {X : Cx} {pos : Pos}
def gLst (K : PySem.W.Frag) (n : Nat) (t : TGs) : TG := fun v σ H Q => ∃ a xs, v = .ref a ∧ SqL K H a xs ∧ xs.length = n ∧ t xs σ H Q
theorem pg_lst {es : List Expr} {k : Nat} {t : TGs} {n : Nat} (hc : X.calm = true) (h : PGs X es t)
    (hn : (assignEach es X.env).length = n := by rfl) (hst : (assignEach es X.env).findIdx? (·.1) = none := by rfl) : PG X (.Tuple es k pos) (gLst X.K n t) := by
  intro pins s σ H v u Q I r hw
  obtain ⟨a, xs, e1, hq, hl, hw⟩ := hw
  subst e1
  cases r
  obtain ⟨its, rv, ht, hz⟩ := I.list hq
  refine assign_Tuple_list (I.ok.hd hc) ht.isList (by simp [hn, ← hl, rv.length]) hst fun h' hx => ?_
  have I1 : Inv X pins σ H { s with heap := h' } := I.kept (t' := s.toks) fun b o e => hx b o (Nat.ne_of_lt (Heap.lt_size e)) e
  exact h pins _ σ H xs _ Q I1 (by simpa using rv) hw
def rDClear : V → List V → Hp → VK → Prop := fun x vs H Q => ∃ a kvs, x = .ref a ∧ vs = [] ∧ H a = some (.dK kvs) ∧ Q .non (upd H a (.dK []))
theorem mt_dclear : MtR X "dict.clear" rDClear := by
  intro pins s σ H x vs v us Q I rx rv h
  obtain ⟨a, kvs, rfl, rfl, e, q⟩ := h
  cases rx
  cases rv
  obtain ⟨z, hd, ws, rel, dd⟩ := dk_of I.hok e
  refine call_meetsIn PySem.F.slot_dict_clear dd.typeIs PySem.F.entry_dict_clear (PySem.F.args_dict_clear_1 _) (meets_dict_clear (mixKind X.prog X.w) a) ⟨ws, dd, by rw [← Paired.length rel]; exact z, fun h' dd' hs => ?_⟩
  have he : ∃ q, h'.get? a = some q := let ⟨q, _, _, hq, _⟩ := dd'; ⟨q, hq⟩
  exact ⟨.non, _, d_write I (by rw [e]; exact True.intro) hs he (dk_new (Nat.zero_le _) hd .nil dd'), rfl, q⟩
def rDUpd : V → List V → Hp → VK → Prop := fun x vs H Q => ∃ a b more, x = .ref a ∧ vs = [.ref b] ∧ a ≠ b ∧ H a = some (.dK []) ∧ H b = some (.dK more) ∧ Q .non (upd H a (.dK more))
theorem mt_dupd : MtR X "dict.update" rDUpd := by
  intro pins s σ H x vs v us Q I rx rv h
  obtain ⟨a, b, more, rfl, rfl, hab, e, e2, q⟩ := h
  cases rx
  obtain ⟨u, rfl, ru⟩ := vals1 rv
  cases ru
  obtain ⟨z, hd, ws, rel, dd⟩ := dk_of I.hok e
  obtain ⟨z2, hd2, ws2, rel2, dd2⟩ := dk_of I.hok e2
  cases rel
  have hn : (ws2.map (·.1)).Nodup := let ⟨_, _, _, _, _, _, _, _, hn⟩ := dd2; hn
  refine call_meetsIn PySem.F.slot_dict_update dd.typeIs PySem.F.entry_dict_update (PySem.F.args_dict_update_2 _ _) (meets_dict_update (mixKind X.prog X.w) a b hab hd2) ⟨[], ws2, dd, dd2, by rw [← Paired.length rel2, List.length_nil, Nat.zero_add]; exact z2, fun h' dd' _ hs => ?_⟩
  rw [merged_nil_of_nodup ws2 hn] at dd'
  have he : ∃ q, h'.get? a = some q := let ⟨q, _, _, hq, _⟩ := dd'; ⟨q, hq⟩
  exact ⟨.non, _, d_write I (by rw [e]; exact True.intro) hs he (dk_new z2 hd rel2 dd'), rfl, q⟩
def rDictD : List V → Hp → VK → Prop := fun vs H Q => ∃ b more, vs = [.ref b] ∧ H b = some (.dK more) ∧ ∀ p H', H p = none → Same H H' → H' p = some (.dK more) → Q (.ref p) H'
theorem call_dictD : CallR X (.type "dict") rDictD := by
  intro pins s σ H xs us Q I r h
  obtain ⟨b, more, rfl, e2, q⟩ := h
  obtain ⟨u, rfl, rx⟩ := vals1 r
  cases rx
  obtain ⟨z2, hd2, ws2, rel2, dd2⟩ := dk_of I.hok e2
  refine kt_call_dict hd2 dd2 (by rw [← Paired.length rel2]; exact z2) fun h' dd' hs => ?_
  have nf : H s.heap.objs.size = none := I.hok.fresh (Nat.le_refl _)
  have hsys : (s.heap.objs.size == sysModules) = false := beq_false_of_ne (Nat.ne_of_gt I.big)
  refine ⟨.ref s.heap.objs.size, upd H s.heap.objs.size (.dK more), I.laid (t' := s.toks) (fun c o e => (hs.2 c (Nat.ne_of_lt (Heap.lt_size e))).trans (Heap.get?_push_of_some _ e)) (Nat.le_refl _) ?_, rfl, q _ _ nf (same_upd nf) upd_same⟩
  exact ⟨z2, hsys, ws2, rel2, dd'⟩
end
theorem passX0 {X : Cx} : Passes (CXE X.prog X.w) X E0 := fun _ _ _ _ _ _ _ ⟨_, _, _, _, _, _, _, _, _, h⟩ => h.elim
theorem bo_dict : bootBuiltins "dict" = some (.type "dict") := by decide +kernel
structure FunD (K : PySem.W.Frag) (x qual : Str) (st : Stmt) (f : Addr) (fd : FuncData) : Prop where
  ex : ∃ (dV oc : Value) (od : Option Addr) (kV doc pm : Value) (an : Option Addr) (cdv ct : Value) (osl : Array (Option Value)),
    fd = PySem.W.fnOf x qual (defArgs st) (defBody st) (defScope st) dV kV doc pm an cdv ct ∧ K.lookup f = some ⟨oc, od, .func fd, osl⟩ ∧ PySem.W.codeIn K cdv qual = true
  kp : PySem.W.keepIn K (.ref f) = true
theorem FunD.okX {P : Program} {w : World} {K : PySem.W.Frag} {mg : Str → Option Value} {base : Heap} {x qual : Str} {st : Stmt} {f : Addr} {fd : FuncData} {N ps : List Str} {k : Nat} {sp : Sp} (F : FunD K x qual st f fd) (S : FnScope N ps (defScope st)) (len : ∀ vs H Q E, sp vs H Q E → vs.length = ps.length)
    (hbody : ∀ (cdv : Value) (A : Around) (outer : List Env) (s : Shared) (H : Hp) (vs : List V) (Q : VK) (E : XK), Room k (A.deeper (envOfC qual (defScope st) s.heap.objs.size f cdv)) → sp vs H Q E →
      ∃ t, PSs (cxOf (CXE P w) P w K mg base N qual (defScope st) f cdv A outer s H E) (defBody st) t ∧ t { nx := fun _ H' => Q .non H', rt := Q } (start N vs) H) : FnOk P w K mg base (CXE P w) (k + 1) f fd ps sp := by
  obtain ⟨dV, oc, od, kV, doc, pm, an, cdv, ct, osl, rfl, lk, hcd⟩ := F.ex
  exact fn_of lk hcd S len fun A outer s H vs Q E hr hsp => hbody cdv A outer s H vs Q E hr hsp
structure DMD (K : PySem.W.Frag) (C : Addr) (x qual : Str) (st : Stmt) (ps : List Str) (f : Addr) (fd : FuncData) (dvs : List V) : Prop where
  F : FunD K x qual st f fd
  mt : Meth K C x f
  b : Binds K fd ps []
  bd : ∃ ds, Vals dvs ds ∧ Binds K fd ps ds
end L2
namespace TG
open PySem L2
structure DkAt (H : Hp) (D : Addr) (gs : List G) : Prop where
  at_ : ∃ (kvs : List (Key × V)) (ks : List Int), H D = some (.dK kvs) ∧ kvs.map (·.1) = ks.map Sum.inl ∧ ks.Perm (places gs) ∧ ∀ g ∈ gs, ∃ a, valV kvs (.inl g.p) = some (.ref a) ∧ H a = some (.tup [.int g.f, .int g.h])
theorem DkAt.keep {H H' : Hp} {D : Addr} {gs : List G} (h : DkAt H D gs) (kd : ∀ kvs, H D = some (.dK kvs) → H' D = some (.dK kvs)) (kt : ∀ a xs, H a = some (.tup xs) → H' a = some (.tup xs)) : DkAt H' D gs := by
  obtain ⟨kvs, ks, e, e2, p, q⟩ := h.at_
  exact ⟨kvs, ks, kd _ e, e2, p, fun g hg => (q g hg).imp fun a z => ⟨z.1, kt _ _ z.2⟩⟩
theorem DkAt.same {H H' : Hp} {D : Addr} {gs : List G} (h : DkAt H D gs) (s : Same H H') : DkAt H' D gs := h.keep (fun _ e => s _ _ e) fun _ _ e => s _ _ e
theorem DkAt.kp {C b S P : Addr} {ow : List Addr} {gs0 : List G} {past : List (List G)} {H H' : Hp} {D : Addr} {gs : List G} (h : DkAt H D gs) (hb : Bch C H b S P ow gs0 past) (k : Kp b P H H') : DkAt H' D gs :=
  h.keep (fun _ e => hb.dk k e) fun _ _ e => hb.tup k e
theorem DkAt.none {H : Hp} {D : Addr} {kvs : List (Key × V)} {ks : List Int} {gs : List G} (e2 : kvs.map (·.1) = ks.map Sum.inl) (p : ks.Perm (places gs)) {x : Int} (hx : x ∉ places gs) : valV kvs (.inl x : Key) = Option.none := by
  cases h : valV kvs (.inl x : Key) with
  | none => rfl
  | some v =>
    have := valV_in h
    rw [e2] at this
    obtain ⟨y, hy, z⟩ := List.mem_map.mp this
    cases z
    exact absurd (p.mem_iff.mp hy) hx
theorem DkAt.get {H : Hp} {D : Addr} {gs : List G} (h : DkAt H D gs) (x : Int) : ∃ o, DGet H D (.int x) o ∧ (gateOf gs x = Option.none → o = Option.none) ∧ ∀ g, gateOf gs x = some g → ∃ a, o = some (.ref a) ∧ H a = some (.tup [.int g.f, .int g.h]) := by
  obtain ⟨kvs, ks, e, e2, p, q⟩ := h.at_
  refine ⟨_, DGet.k (k := .inl x) e, fun n => DkAt.none (H := H) (D := D) e2 p (gateOf_none.mp n), fun g hg => ?_⟩
  obtain ⟨h1, h2⟩ := gateOf_some hg
  obtain ⟨a, z1, z2⟩ := q g h1
  rw [h2] at z1
  exact ⟨a, z1, z2⟩
theorem DkAt.isD {H : Hp} {D : Addr} {gs : List G} (h : DkAt H D gs) : IsD H D := by
  obtain ⟨kvs, ks, e, _⟩ := h.at_
  exact .inl ⟨kvs, .inl e⟩
theorem DkAt.len {H : Hp} {D : Addr} {gs : List G} (h : DkAt H D gs) : ∃ kvs, H D = some (.dK kvs) ∧ kvs.length = gs.length := by
  obtain ⟨kvs, ks, e, e2, p, _⟩ := h.at_
  refine ⟨kvs, e, ?_⟩
  have h1 := congrArg List.length e2
  have h2 := p.length_eq
  simp at h1 h2
  omega
theorem perm_put_keys {gs : List G} {x : Int} {o : List G} : (places (put1 gs x o)).Perm ((places gs).filter (fun y => decide (y ≠ x)) ++ places o) := by
  have h := (perm_put1 (gs := gs) (p := x) (o := o)).map G.p
  rw [List.map_append] at h
  refine h.trans (List.Perm.append_right _ (List.Perm.of_eq ?_))
  unfold places
  clear h
  induction gs with
  | nil => rfl
  | cons g gs ih =>
    by_cases e : g.p = x
    · rw [List.filter_cons_of_neg (by simp [e]), List.map_cons, List.filter_cons_of_neg (by simp [e]), ih]
    · rw [List.filter_cons_of_pos (by simp [e]), List.map_cons, List.map_cons, List.filter_cons_of_pos (by simp [e]), ih]
theorem keys_putK {kvs : List (Key × V)} {k : Key} {v : V} : (putK kvs k v).map (·.1) = if (valV kvs k).isSome = true then kvs.map (·.1) else kvs.map (·.1) ++ [k] := by
  unfold putK
  rw [valV_any]
  split
  · rw [List.map_map]
    refine List.map_congr_left fun p _ => ?_
    show (if p.1 = k then (p.1, v) else p).1 = p.1
    split <;> rfl
  · rw [List.map_append]; rfl
theorem DkAt.put {H H' : Hp} {D a : Addr} {gs : List G} {x f h : Int} (s : Std gs) (d : DkAt H D gs) (ea : H a = some (.tup [.int f, .int h])) (hp : DPut H D (.int x) (.ref a) H') : DkAt H' D (put1 gs x [⟨x, f, h⟩]) := by
  obtain ⟨kvs, ks, e, e2, p, q⟩ := d.at_
  rcases hp with ⟨kvs', k, e', ek, _, rfl⟩ | ⟨_, _, _, e', _⟩
  · rw [e] at e'
    cases e'
    have hk : k = .inl x := by
      cases k with
      | inl i => cases ek; rfl
      | inr y => cases ek
    subst hk
    have kt : ∀ c xs, H c = some (.tup xs) → upd H D (.dK (putK kvs (.inl x) (.ref a))) c = some (.tup xs) := fun c xs z => (upd_ne (ne_of z e (fun z => by cases z))).trans z
    have hmem : ∀ g, g ∈ put1 gs x [⟨x, f, h⟩] → ∃ c, valV (putK kvs (.inl x) (.ref a)) (.inl g.p) = some (.ref c) ∧ upd H D (.dK (putK kvs (.inl x) (.ref a))) c = some (.tup [.int g.f, .int g.h]) := fun g hg => by
      rcases mem_put1.mp hg with ⟨h1, h2⟩ | h1
      · obtain ⟨c, z1, z2⟩ := q g h1
        refine ⟨c, ?_, kt _ _ z2⟩
        rw [valV_put, if_neg (fun z => h2 (Sum.inl.inj z))]
        exact z1
      · rw [List.mem_singleton.mp h1]
        exact ⟨a, by rw [valV_put, if_pos rfl], kt _ _ ea⟩
    have nd : (places gs).Nodup := s.nd
    by_cases hx : x ∈ places gs
    · obtain ⟨g, hg, eg⟩ := List.mem_map.mp hx
      obtain ⟨c, z1, _⟩ := q g hg
      rw [eg] at z1
      refine ⟨_, ks, upd_same, by rw [keys_putK, z1]; exact e2, ?_, hmem⟩
      refine p.trans (List.Perm.trans ?_ perm_put_keys.symm)
      have := (List.perm_cons_erase hx).trans (List.perm_append_singleton x _).symm
      rw [nd.erase_eq_filter] at this
      refine this.trans (List.Perm.of_eq ?_)
      show _ = _ ++ [x]
      congr 1
      exact List.filter_congr fun y _ => by
        by_cases h : y = x
        · simp [h]
        · simp [h, bne]
    · refine ⟨_, ks ++ [x], upd_same, by rw [keys_putK, DkAt.none (H := H) (D := D) e2 p hx, if_neg (by simp), e2, List.map_append]; rfl, ?_, hmem⟩
      refine List.Perm.trans (p.append_right [x]) (List.Perm.trans (List.Perm.of_eq ?_) perm_put_keys.symm)
      show _ = _ ++ [x]
      congr 1
      refine (List.filter_eq_self.mpr fun y hy => ?_).symm
      have hy' : y ≠ x := fun z => hx (by rw [← z]; exact hy)
      simp [hy']
  · rw [e] at e'
    cases e'
theorem DkAt.pop {H : Hp} {D : Addr} {gs : List G} {g : G} (d : DkAt H D gs) (hg : g ∈ gs) : ∃ kvs a, H D = some (.dK kvs) ∧ valV kvs (.inl g.p) = some (.ref a) ∧ DkAt (upd H D (.dK (dropK kvs (.inl g.p)))) D (put1 gs g.p []) := by
  obtain ⟨kvs, ks, e, e2, p, q⟩ := d.at_
  obtain ⟨a, z1, z2⟩ := q g hg
  have kt : ∀ c xs, H c = some (.tup xs) → upd H D (.dK (dropK kvs (.inl g.p))) c = some (.tup xs) := fun c xs z => (upd_ne (ne_of z e (fun z => by cases z))).trans z
  refine ⟨kvs, a, e, z1, ⟨_, ks.filter (fun y => decide (y ≠ g.p)), upd_same, ?_, ?_, fun x hx => ?_⟩⟩
  · have : ∀ (kvs : List (Key × V)) (ks : List Int), kvs.map (·.1) = ks.map Sum.inl → (dropK kvs (.inl g.p)).map (·.1) = (ks.filter fun y => decide (y ≠ g.p)).map Sum.inl := fun kvs => by
      induction kvs with
      | nil => intro ks h; cases ks with
        | nil => rfl
        | cons _ _ => cases h
      | cons kv kvs ih => intro ks h; cases ks with
        | nil => cases h
        | cons k ks =>
          simp only [List.map_cons, List.cons.injEq] at h
          have ih := ih ks h.2
          unfold dropK at *
          by_cases ek : k = g.p
          · rw [List.filter_cons_of_neg (by rw [h.1, ek]; simp), List.filter_cons_of_neg (by simp [ek])]
            exact ih
          · rw [List.filter_cons_of_pos (by rw [h.1]; simp [ek]), List.filter_cons_of_pos (by simp [ek]), List.map_cons, List.map_cons, ih, h.1]
    exact this kvs ks e2
  · have := (p.filter (fun y => decide (y ≠ g.p))).trans (List.Perm.of_eq (List.append_nil _).symm)
    exact this.trans (perm_put_keys (gs := gs) (x := g.p) (o := [])).symm
  · rcases mem_put1.mp hx with ⟨h1, h2⟩ | h1
    · obtain ⟨c, y1, y2⟩ := q x h1
      refine ⟨c, ?_, kt _ _ y2⟩
      rw [← y1]
      have : ∀ kvs : List (Key × V), valV (dropK kvs (.inl g.p)) (.inl x.p) = valV kvs (.inl x.p) := fun kvs => by
        induction kvs with
        | nil => rfl
        | cons kv kvs ih =>
          by_cases ek : kv.1 = .inl g.p
          · rw [dropK_pos ek, ih, valV_neg (fun z => h2 (Sum.inl.inj (z.symm.trans ek)))]
          · rw [dropK_neg ek]
            by_cases ex : kv.1 = .inl x.p
            · rw [valV_pos ex, valV_pos ex]
            · rw [valV_neg ex, valV_neg ex, ih]
      exact this kvs
    · cases h1
theorem DkAt.nil {H : Hp} {D : Addr} (e : H D = some (.dK [])) : DkAt H D [] := ⟨[], [], e, rfl, List.Perm.refl _, fun _ h => absurd h (by simp)⟩
theorem le_perm_eq : ∀ {xs ys : List Int}, xs.Pairwise (· ≤ ·) → ys.Pairwise (· < ·) → xs.Perm ys → xs = ys
  | [], ys, _, _, h => (List.nil_perm.mp h).symm
  | x :: xs, [], _, _, h => absurd h (by intro z; have := z.length_eq; simp at this)
  | x :: xs, y :: ys, h1, h2, h => by
    obtain ⟨a1, a2⟩ := List.pairwise_cons.mp h1
    obtain ⟨b1, b2⟩ := List.pairwise_cons.mp h2
    have e : x = y := by
      have hx : x ∈ y :: ys := h.mem_iff.mp List.mem_cons_self
      have hy : y ∈ x :: xs := h.mem_iff.mpr List.mem_cons_self
      rcases List.mem_cons.mp hx with e | hx
      · exact e
      · rcases List.mem_cons.mp hy with e | hy
        · exact e.symm
        · have := a1 y hy
          have := b1 x hx
          omega
    subst e
    rw [le_perm_eq a2 b2 ((List.perm_cons x).mp h)]
theorem asc_lt_places {gs : List G} (h : Asc gs) : (places gs).Pairwise (· < ·) := List.pairwise_map.mpr h
theorem comp_gates {K : PySem.W.Frag} {a : Addr} {gs : List G} {te : TE} {caps : St} {D : Addr} {H1 : Hp} {Q : Hp → Prop} (hl : SqL K H1 a ((places gs).map V.int)) (hD : H1 D = none) (hz : gs.length ≤ 1000)
    (he : ∀ g H (R : VK), g ∈ gs → Same H1 H → (∀ p H', H p = none → Same H H' → H' p = some (.tup (G.vs g)) → R (.ref p) H') → te (some (.int g.p) :: caps) H R)
    (hd : ∀ H as, Same H1 H → H D = some (.lst (as.map V.ref)) → GsAt H as gs → Q H) : cLoop te tYes caps (Itl K a) D H1 Q := by
  have hlen : ((places gs).map V.int).length = gs.length := by rw [List.length_map, List.length_map]
  refine comp_list_if (xs := (places gs).map V.int) (fun i ys H => ∃ as : List Addr, ys = as.map V.ref ∧ Same H1 H ∧ H D = some (.lst ys) ∧ GsAt H as (gs.take i)) ⟨[], rfl, same_upd hD, upd_same, .nil⟩ (fun _ _ H _ ⟨_, _, s1, _⟩ => s1.seq hl) ?_ ?_
  · rintro i x ys H hx ⟨as, rfl, s1, e1, g1⟩
    have hi : i < gs.length := by
      have := (List.getElem?_eq_some_iff.mp hx).1
      omega
    have ex : x = V.int gs[i].p := by
      rw [List.getElem?_map, List.getElem?_map, List.getElem?_eq_getElem hi] at hx
      exact (Option.some.inj hx).symm
    subst ex
    have et : gs.take (i + 1) = gs.take i ++ [gs[i]] := List.take_succ_eq_append_getElem hi
    have lg := g1.len
    rw [List.length_take] at lg
    unfold tYes
    dsimp only
    rw [if_pos rfl]
    refine he gs[i] H _ (List.getElem_mem hi) s1 fun p H2 n2 s2 e2 => ?_
    have nD2 : p ≠ D := fun z => by rw [z, e1] at n2; cases n2
    refine ⟨s2.get e1, by rw [List.length_map, PySem.sizeLine_eq]; omega, _, by omega, rfl, by omega, as ++ [p], by rw [List.map_append]; rfl, (s1.trans s2).updFresh hD, upd_same, ?_⟩
    rw [et]
    exact (GsAt.snoc (g1.same s2) e2).fresh (fun ys z => by rw [s2.get e1] at z; cases z)
  · rintro ys H ⟨as, rfl, s1, e1, g1⟩
    rw [hlen, List.take_length] at g1
    exact hd H as s1 e1 g1
structure Kept (ow : List Addr) (H H' : Hp) (ow' : List Addr) : Prop where
  tup : ∀ c xs, H c = some (.tup xs) → H' c = some (.tup xs)
  lst : ∀ c xs, c ∉ ow → H c = some (.lst xs) → H' c = some (.lst xs)
  frz : ∀ c o u, H c = some (.frz o u) → H' c = some (.frz o u)
  off : ∀ c ∈ ow', c ∈ ow ∨ H c = none
  live : ∀ c u, H c = some u → ∃ u', H' c = some u'
theorem Kept.of {ow : List Addr} {H H' : Hp} (s : Same H H') : Kept ow H H' ow := ⟨fun _ _ e => s _ _ e, fun _ _ _ e => s _ _ e, fun _ _ _ e => s _ _ e, fun _ h => .inl h, fun _ u e => ⟨u, s _ _ e⟩⟩
theorem Kept.refl {ow : List Addr} {H : Hp} : Kept ow H H ow := Kept.of (Same.refl _)
theorem Kept.trans {ow ow1 ow2 : List Addr} {H H1 H2 : Hp} (a : Kept ow H H1 ow1) (b : Kept ow1 H1 H2 ow2) : Kept ow H H2 ow2 where
  tup := fun c xs e => b.tup c xs (a.tup c xs e)
  lst := fun c xs n e => b.lst c xs (fun z => by
    rcases a.off c z with z | z
    · exact n z
    · rw [z] at e; cases e) (a.lst c xs n e)
  frz := fun c o u e => b.frz c o u (a.frz c o u e)
  off := fun c h => by
    rcases b.off c h with z | z
    · exact a.off c z
    · refine .inr ?_
      cases q : H c with
      | none => rfl
      | some u => obtain ⟨u', e⟩ := a.live c u q; rw [z] at e; cases e
  live := fun c u e => let ⟨u', e'⟩ := a.live c u e; b.live c u' e'
theorem Kept.same {ow ow1 : List Addr} {H H1 H2 : Hp} (a : Kept ow H H1 ow1) (s : Same H1 H2) : Kept ow H H2 ow1 := a.trans (Kept.of s)
theorem Kept.kp {C b S P S' P' : Addr} {ow ow' : List Addr} {gs gs' : List G} {past past' : List (List G)} {H H' : Hp} (hb : Bch C H b S P ow gs past) (k : Kp b P H H') (hb' : Bch C H' b S' P' ow' gs' past') (o : ∀ a ∈ ow', a ∈ ow ∨ H a = none) (hl : ∃ u, H' P = some u) : Kept ow H H' ow' where
  tup := fun c xs e => hb.tup k e
  lst := fun c xs n e => hb.lst k e n
  frz := fun c o u e => k c _ (hb.neb e fun _ _ _ z => by cases z) (hb.nep e fun _ z => by cases z) e
  off := o
  live := fun c u e => by
    by_cases h1 : c = b
    · obtain ⟨dx, z⟩ := hb'.at_; rw [h1]; exact ⟨_, z⟩
    · by_cases h2 : c = P
      · rw [h2]; exact hl
      · exact ⟨u, k c u h1 h2 e⟩
def Scr (K : PySem.W.Frag) (ow : List Addr) (H : Hp) (a : Addr) (xs : List V) : Prop := (H a = some (.lst xs) ∧ a ∉ ow) ∨ (∃ o, H a = some (.frz o (.lst xs))) ∨ ∀ H', SqL K H' a xs
theorem Scr.sq {K : PySem.W.Frag} {ow : List Addr} {H : Hp} {a : Addr} {xs : List V} (h : Scr K ow H a xs) : SqL K H a xs := by
  rcases h with ⟨h, _⟩ | ⟨o, h⟩ | h
  · exact .inl (.inl h)
  · exact .inl (.inr ⟨o, h⟩)
  · exact h H
theorem Scr.kept {K : PySem.W.Frag} {ow ow' : List Addr} {H H' : Hp} {a : Addr} {xs : List V} (h : Scr K ow H a xs) (k : Kept ow H H' ow') : Scr K ow' H' a xs := by
  rcases h with ⟨h, n⟩ | ⟨o, h⟩ | h
  · exact .inl ⟨k.lst _ _ n h, off_of k.off h n⟩
  · exact .inr (.inl ⟨o, k.frz _ _ _ h⟩)
  · exact .inr (.inr h)
theorem Scr.of {K : PySem.W.Frag} {ow : List Addr} {H H' : Hp} {a : Addr} {xs : List V} (h : SqL K H a xs) (ho : ∀ c ∈ ow, H c = none) (s : Same H H') : Scr K ow H' a xs := by
  rcases h with (h | ⟨o, h⟩) | h
  · exact .inl ⟨s.get h, fun z => by rw [ho a z] at h; cases h⟩
  · exact .inr (.inl ⟨o, s.get h⟩)
  · exact .inr (.inr fun _ => .inr h)
theorem fits_put {G0 gs : List G} {k : Nat} (hp : G0.Perm (gs.take k)) (hk : k < gs.length) (nd : (gs.map G.p).Nodup) (h40 : gs.length ≤ 40) (ok : ∀ g ∈ gs, OkG g) {past : List (List G)} (hl : past.length < 300) :
    putE G0 past gs[k].p gs[k].f gs[k].h = none ∧ (put1 G0 gs[k].p [⟨gs[k].p, gs[k].f, gs[k].h⟩]).Perm (gs.take (k + 1)) := by
  have hn : gs[k].p ∉ places G0 := fun z => by
    obtain ⟨g, hg, e⟩ := List.mem_map.mp z
    have hg2 := hp.mem_iff.mp hg
    obtain ⟨j, hj, ej⟩ := List.getElem_of_mem hg2
    rw [List.length_take] at hj
    rw [List.getElem_take] at ej
    have hjk : j < k := by omega
    have h1 : (gs.map G.p)[j]'(by rw [List.length_map]; omega) = (gs.map G.p)[k]'(by rw [List.length_map]; omega) := by
      rw [List.getElem_map, List.getElem_map, ej, e]
    exact List.pairwise_iff_getElem.mp nd j k (by rw [List.length_map]; omega) (by rw [List.length_map]; omega) hjk h1
  have hl2 := hp.length_eq
  rw [List.length_take] at hl2
  constructor
  · unfold putE
    rw [if_neg hn, (gateE_none (p := gs[k].p) (f := gs[k].f) (h := gs[k].h)).mpr (ok gs[k] (List.getElem_mem hk)), if_neg (by omega), if_neg (by omega)]
    rfl
  · refine perm_put1.trans ?_
    rw [flt_same hn, List.take_succ_eq_append_getElem hk]
    exact hp.append_right _
theorem DkAt.dput {H : Hp} {D a : Addr} {gs : List G} {x f h : Int} (s : Std gs) (d : DkAt H D gs) (ea : H a = some (.tup [.int f, .int h])) :
    ∃ kvs kvs', H D = some (.dK kvs) ∧ DPut H D (.int x) (.ref a) (upd H D (.dK kvs')) ∧ DkAt (upd H D (.dK kvs')) D (put1 gs x [⟨x, f, h⟩]) := by
  obtain ⟨kvs, e, hl⟩ := d.len
  have hp : DPut H D (.int x) (.ref a) (upd H D (.dK (putK kvs (.inl x) (.ref a)))) := .inl ⟨kvs, .inl x, e, rfl, by rw [PySem.sizeLine_eq]; have := s.len; omega, rfl⟩
  exact ⟨kvs, _, e, hp, DkAt.put s d ea hp⟩
end TG
set_option Elab.async false
set_option linter.all false
set_option maxRecDepth 100000
set_option maxHeartbeats 4000000
namespace L2
open PySem PySem.Spec PyProof.Rows
theorem vals3 {x y z : V} {us : List Value} (r : Vals [x, y, z] us) : ∃ u v w', us = [u, v, w'] ∧ RelV x u ∧ RelV y v ∧ RelV z w' := by
  cases r with
  | cons r1 r2 =>
    cases r2 with
    | cons r3 r4 =>
      cases r4 with
      | cons r5 r6 => cases r6; exact ⟨_, _, _, rfl, r1, r3, r5⟩
section
variable {X : Cx}
def rMax3 : List V → Hp → VK → Prop := fun xs H Q => ∃ i j k, xs = [.int i, .int j, .int k] ∧ ∀ m, (∀ b, m ≤ b ↔ i ≤ b ∧ j ≤ b ∧ k ≤ b) → Q (.int m) H
theorem call_max3 (hc : X.calm = true) : CallR X (.builtin "max") rMax3 := by
  intro pins s σ H xs us Q I r h
  obtain ⟨i, j, k, rfl, q⟩ := h
  obtain ⟨u, v, w', rfl, ⟨t, rfl⟩, ⟨t', rfl⟩, ⟨t'', rfl⟩⟩ := vals3 r
  refine max_three_ints (I.ok.hd hc) fun h' tk kp => ?_
  by_cases h1 : j > i
  · rw [if_pos h1]
    by_cases h2 : k > j
    · rw [if_pos h2]; exact ⟨.int k, H, I.kept kp, ⟨_, rfl⟩, q k fun b => by omega⟩
    · rw [if_neg h2]; exact ⟨.int j, H, I.kept kp, ⟨_, rfl⟩, q j fun b => by omega⟩
  · rw [if_neg h1]
    by_cases h2 : k > i
    · rw [if_pos h2]; exact ⟨.int k, H, I.kept kp, ⟨_, rfl⟩, q k fun b => by omega⟩
    · rw [if_neg h2]; exact ⟨.int i, H, I.kept kp, ⟨_, rfl⟩, q i fun b => by omega⟩
end
end L2
namespace TG
open PySem L2
def errT : Err → Str
  | .nogate => "no gate" | .taken => "taken" | .upside => "upside down" | .bounds => "out of bounds" | .full => "beach full" | .deeds => "deeds full" | .nothing => "nothing back"
  | .badlist => "bad list" | .few => "too few" | .size => "wrong size" | .badthrow => "bad throw" | .badrow => "bad row"
def errS : Option Err → Str
  | none => ""
  | some e => errT e
inductive Wrd (w : Str) : Prop where
  | put (h : w = "put") | take (h : w = "take") | lift (h : w = "lift") | sink (h : w = "sink") | back (h : w = "back")
def deedE (w : Str) (gs : List G) (past : List (List G)) (p x y : Int) : Option Err :=
  if w = "back" then backE past p else if w = "put" then putE gs past p x y else if w = "take" then takeE gs past p else if w = "lift" then liftE gs past p x y else liftE gs past p (-x) (-y)
def would (w : Str) (gs : List G) (p x y : Int) : Int × Int :=
  if w = "put" then (x, y) else
    if w = "lift" then (((gateOf gs p).elim 0 G.f) + x, ((gateOf gs p).elim 0 G.h) + y) else
    if w = "sink" then (((gateOf gs p).elim 0 G.f) - x, ((gateOf gs p).elim 0 G.h) - y) else ((gateOf gs p).elim 0 G.f, (gateOf gs p).elim 0 G.h)
def deedG (w : Str) (gs : List G) (past : List (List G)) (p x y : Int) : List G :=
  if w = "back" then past.getD (past.length - p.toNat) [] else if w = "take" then put1 gs p [] else put1 gs p [⟨p, (would w gs p x y).1, (would w gs p x y).2⟩]
def deedP (w : Str) (gs : List G) (past : List (List G)) (p : Int) : List (List G) := if w = "back" then past.take (past.length - p.toNat) else past ++ [gs]
def aft (w : Str) (gs : List G) (past : List (List G)) (p x y : Int) : List G × List (List G) := match deedE w gs past p x y with
  | some _ => (gs, past)
  | none => (deedG w gs past p x y, deedP w gs past p)
def isDeed : Err → Bool
  | .nogate => true | .taken => true | .upside => true | .bounds => true | .full => true | .deeds => true | .nothing => true | _ => false
theorem gateE_is {p f h : Int} {e : Err} (he : gateE p f h = some e) : isDeed e = true := by
  unfold gateE at he
  split at he
  · cases he; rfl
  · split at he
    · cases he
    · cases he; rfl
theorem deedsE_is {past : List (List G)} {e : Err} (he : deedsE past = some e) : isDeed e = true := by
  unfold deedsE at he
  split at he
  · cases he; rfl
  · cases he
theorem putE_is {gs : List G} {past : List (List G)} {p f h : Int} {e : Err} (he : putE gs past p f h = some e) : isDeed e = true := by
  unfold putE at he
  split at he
  · cases he; rfl
  · cases hg : gateE p f h with
    | some e' => rw [hg] at he; cases he; exact gateE_is hg
    | none =>
      rw [hg] at he
      have he : (if 40 ≤ gs.length then some Err.full else if 300 ≤ past.length then some Err.deeds else none) = some e := he
      split at he
      · cases he; rfl
      · split at he
        · cases he; rfl
        · cases he
theorem takeE_is {gs : List G} {past : List (List G)} {p : Int} {e : Err} (he : takeE gs past p = some e) : isDeed e = true := by
  unfold takeE at he
  split at he
  · exact deedsE_is he
  · cases he; rfl
theorem liftE_is {gs : List G} {past : List (List G)} {p x y : Int} {e : Err} (he : liftE gs past p x y = some e) : isDeed e = true := by
  unfold liftE at he
  split at he
  · cases he; rfl
  · rename_i g _
    cases hg : gateE p (g.f + x) (g.h + y) with
    | some e' => rw [hg] at he; cases he; exact gateE_is hg
    | none => rw [hg] at he; exact deedsE_is he
theorem backE_is {past : List (List G)} {n : Int} {e : Err} (he : backE past n = some e) : isDeed e = true := by
  unfold backE at he
  split at he
  · cases he; rfl
  · split at he
    · cases he; rfl
    · cases he
theorem errT_ne {e : Err} : errT e ≠ "" := by cases e <;> decide
structure Wd (C : Addr) (H : Hp) (b S P : Addr) (ow : List Addr) (gs : List G) (past : List (List G)) (D L : Addr) : Prop where
  bch : Bch C H b S P ow gs past
  dk : DkAt H D gs
  pl : ∃ ds : List Addr, H L = some (.lst (ds.map V.ref)) ∧ Paired (DkAt H) ds past ∧ D ∉ ds
  po : L ∉ ow
theorem Wd.same {C : Addr} {H H' : Hp} {b S P : Addr} {ow : List Addr} {gs : List G} {past : List (List G)} {D L : Addr} (h : Wd C H b S P ow gs past D L) (s : Same H H') : Wd C H' b S P ow gs past D L := by
  obtain ⟨ds, e, pr, n⟩ := h.pl
  exact ⟨h.bch.same s, h.dk.same s, ⟨ds, s.get e, Paired.mapP pr fun _ _ q => q.same s, n⟩, h.po⟩
theorem Wd.deed {C : Addr} {H H' : Hp} {b S P S' P' : Addr} {ow ow' : List Addr} {gs gs' : List G} {past past' : List (List G)} {D L : Addr} (h : Wd C H b S P ow gs past D L) (k : Kp b P H H') (hb' : Bch C H' b S' P' ow' gs' past') (o : ∀ a ∈ ow', a ∈ ow ∨ H a = none) :
    DkAt H' D gs ∧ (∃ ds : List Addr, H' L = some (.lst (ds.map V.ref)) ∧ Paired (DkAt H') ds past ∧ D ∉ ds) ∧ L ∉ ow' := by
  obtain ⟨ds, e, pr, n⟩ := h.pl
  exact ⟨h.dk.kp h.bch k, ⟨ds, h.bch.lst k e h.po, Paired.mapP pr fun _ _ q => q.kp h.bch k, n⟩, off_of o e h.po⟩
theorem Wd.plen {C : Addr} {H : Hp} {b S P : Addr} {ow : List Addr} {gs : List G} {past : List (List G)} {D L : Addr} (h : Wd C H b S P ow gs past D L) : ∃ xs, H L = some (.lst xs) ∧ xs.length = past.length := by
  obtain ⟨ds, e, pr, n⟩ := h.pl
  exact ⟨_, e, by rw [List.length_map, Paired.length pr]⟩
theorem Kept.cons {ow ow' : List Addr} {H H' : Hp} (k : Kept ow H H' ow') {L : Addr} : Kept (L :: ow) H H' (L :: ow') :=
  ⟨k.tup, fun c xs n e => k.lst c xs (fun z => n (List.mem_cons_of_mem _ z)) e, k.frz, fun c hc => by
    rcases List.mem_cons.mp hc with z | z
    · exact .inl (by rw [z]; exact List.mem_cons_self)
    · exact (k.off c z).imp (List.mem_cons_of_mem _) id, k.live⟩
theorem deedE_tail {w : Str} {gs : List G} {past : List (List G)} {p x y : Int} (wd : Wrd w) (nb : w ≠ "back") (h1 : w = "put" → p ∉ places gs) (h2 : w ≠ "put" → p ∈ places gs) (sd : Std gs) :
    deedE w gs past p x y = (gateE p (would w gs p x y).1 (would w gs p x y).2).or (if w = "put" ∧ 40 ≤ gs.length then some .full else deedsE past) := by
  unfold deedE
  rw [if_neg nb]
  rcases wd with e | e | e | e | e
  · subst e
    rw [if_pos rfl]
    unfold putE would deedsE
    rw [if_neg (h1 rfl), if_pos rfl]
    by_cases h4 : 40 ≤ gs.length
    · rw [if_pos h4, if_pos ⟨rfl, h4⟩]
    · rw [if_neg h4, if_neg (show ¬ (("put" : Str) = "put" ∧ 40 ≤ gs.length) from fun z => h4 z.2)]
  all_goals first | exact absurd e nb | skip
  all_goals
    have np : w ≠ "put" := by rw [e]; decide
    have hp := h2 np
    obtain ⟨g, hg, hgp⟩ := List.mem_map.mp hp
    have gof : gateOf gs p = some g := hgp ▸ gateOf_eq sd.asc hg
    rw [if_neg np, if_neg (show ¬ (w = "put" ∧ 40 ≤ gs.length) from fun z => np z.1)]
    unfold would
    rw [if_neg np, gof]
  · rw [if_pos e, if_neg (by rw [e]; decide), if_neg (by rw [e]; decide)]
    unfold takeE
    rw [if_pos hp]
    have : gateE p g.f g.h = none := hgp ▸ gateE_none.mpr (sd.ok g hg)
    show _ = (gateE p g.f g.h).or _
    rw [this]
    rfl
  · rw [if_neg (by rw [e]; decide), if_pos e, if_pos e]
    unfold liftE
    rw [gof]
    rfl
  · rw [if_neg (by rw [e]; decide), if_neg (by rw [e]; decide), if_neg (by rw [e]; decide), if_pos e]
    unfold liftE
    rw [gof]
    rfl
theorem deedE_one {w : Str} {gs : List G} {past : List (List G)} {p x y : Int} (wd : Wrd w) (nb : w ≠ "back") : (w = "put" → p ∈ places gs → deedE w gs past p x y = some .taken) ∧ (w ≠ "put" → p ∉ places gs → deedE w gs past p x y = some .nogate) := by
  constructor
  · intro e hp
    unfold deedE putE
    rw [if_neg nb, if_pos e, if_pos hp]
  · intro np hp
    unfold deedE
    rw [if_neg nb, if_neg np]
    unfold takeE liftE
    rw [gateOf_none.mpr hp, if_neg hp]
    split
    · rfl
    · split <;> rfl
theorem dk_some_iff {H : Hp} {D : Addr} {gs : List G} {x : Int} {o : Option V} (hn : gateOf gs x = none → o = none) (hs : ∀ g, gateOf gs x = some g → ∃ a, o = some (.ref a) ∧ H a = some (.tup [.int g.f, .int g.h])) : o.isSome = decide (x ∈ places gs) := by
  cases hg : gateOf gs x with
  | none => rw [hn hg, decide_eq_false (gateOf_none.mp hg)]; rfl
  | some g =>
    obtain ⟨a, rfl, _⟩ := hs g hg
    obtain ⟨h1, h2⟩ := gateOf_some hg
    rw [decide_eq_true (List.mem_map.mpr ⟨g, h1, h2⟩)]
    rfl
end TG
set_option Elab.async false
set_option linter.all false
set_option maxRecDepth 100000
set_option maxHeartbeats 4000000
namespace TG
open PySem PySem.W PySem.Calls L2
def topRunT (tb : String → Option Builtin) (p : Program) (w : World) (n₀ : Nat) (ann : Option Value) : Nat → SharedT → Thread → Option SharedT
  | 0, _, _ => none
  | n + 1, s, t => match through t with
    | true => some s
    | false => match stepOk n₀ ann t with
      | false => none
      | true => match stepT (denote tb) p w s t with
        | some (s', t') => topRunT tb p w n₀ ann n s' t'
        | none => none
theorem topRun_ofT {tb : String → Option Builtin} {p : Program} {w : World} {n₀ : Nat} {ann : Option Value} : ∀ {n : Nat} {s s' : SharedT} {t : Thread}, topRunT tb p w n₀ ann n s t = some s' → topRun tb p w n₀ ann n s.abs t = some s'.abs
  | 0, _, _, _, h => by cases h
  | n + 1, s, s', t, h => by
    unfold topRunT at h
    unfold topRun
    cases he : through t with
    | true => rw [he] at h; cases h; rfl
    | false =>
      rw [he] at h
      cases hk : stepOk n₀ ann t with
      | false => rw [hk] at h; cases h
      | true =>
        rw [hk] at h
        cases hs : stepT (denote tb) p w s t with
        | none => rw [hs] at h; cases h
        | some r => obtain ⟨s₂, t₂⟩ := r; rw [hs] at h; rw [stepT_spec hs]; exact topRun_ofT h
def Kof (as : List Addr) (h : Heap) : Frag := as.filterMap fun a => (h.get? a).map fun o => (a, o)
theorem Kof_in (as : List Addr) (h : Heap) : (Kof as h).In h := by
  intro a o e
  induction as with
  | nil => cases e
  | cons b r ih =>
    simp only [Kof, List.filterMap_cons] at e
    cases hb : h.get? b with
    | none => rw [hb] at e; exact ih e
    | some ob =>
      rw [hb] at e
      simp only [Option.map_some, List.lookup] at e
      split at e
      · rename_i q; cases e; rw [beq_iff_eq.mp q]; exact hb
      · exact ih e
def getT (t : BT) (n a : Nat) : Option Obj := match Nat.blt a n with
  | true => alive ((t.get a).getD default)
  | false => none
def KofT (as : List Addr) (s : SharedT) : Frag := as.filterMap fun a => (getT s.tree s.n a).map fun o => (a, o)
theorem getT_eq (t : BT) (n : Nat) (life : Life) (a : Nat) : (absHeap t n life).get? a = getT t n a := by
  unfold getT
  cases h : Nat.blt a n with
  | true =>
    have h' : a < n := by simpa [Nat.blt_eq] using h
    show _ = alive ((t.get a).getD default)
    unfold Heap.get?
    rw [absHeap_at, if_pos h']
    generalize (t.get a).getD default = o
    obtain ⟨c, d, dt, sl⟩ := o
    cases dt <;> rfl
  | false =>
    have h' : ¬ a < n := by intro q; rw [Nat.blt_eq.mpr q] at h; cases h
    exact abs_get_none h'
theorem Kof_abs (as : List Addr) (s : SharedT) : Kof as s.abs.heap = KofT as s := by
  unfold Kof KofT
  congr 1
  funext a
  show ((absHeap s.tree s.n s.life).get? a).map _ = _
  rw [getT_eq]
def treeOf : Nat → BT → List Obj → BT
  | _, t, [] => t
  | i, t, o :: r => treeOf (i + 1) (t.ins i o) r
noncomputable def bootS (P : Params) (os : OsState) : SharedT := ⟨treeOf 0 .nil (boot_heap P).objs.toList, 11, {}, #[], boot_drawn, boot_toks, os⟩
theorem bootS_abs (P : Params) (os : OsState) : (bootS P os).abs = ⟨boot_heap P, #[], boot_drawn, boot_toks, os⟩ := by kernel_rfl
theorem boot_size (P : Params) : ((boot_heap P).isNs mainGlobals && (#[] : Array GenState).size == 0, (boot_heap P).objs.size, (boot_heap P).nsMap mainGlobals "__annotations__") = (true, 11, some (.ref 6)) := by kernel_rfl
noncomputable def lookT {β : Type} (p q : Program) (loose : List Str) (obs : SharedT → β) (P : Params) (s : SharedT) :=
  ((staticsOk (importedModules p.main.body) (boot_heap P) s.abs.heap && namesBound p s.abs.heap && gensDone s.abs && laidKept (boot_heap P) s.abs.heap), openSeen q loose (importedModules p.main.body) (fun _ => true) true s.abs, obs s)
noncomputable def runAll {β : Type} (p q : Program) (loose : List Str) (obs : SharedT → β) (M : Nat) (w : World) (os : OsState) :=
  (topRunT treeTable p w 11 (some (.ref 6)) M (bootS w.params os) (topStub p)).map (lookT p q loose obs w.params)
noncomputable def runObs {β : Type} (p : Program) (obs : SharedT → β) (M : Nat) (w : World) (os : OsState) :=
  (topRunT treeTable p w 11 (some (.ref 6)) M (bootS w.params os) (topStub p)).map obs
theorem runAll_two {β : Type} {p q : Program} {loose : List Str} {B : SharedT → β} {M : Nat} {w : World} {os : OsState} {v : β} (e1 : runAll p q loose (fun _ => ()) M w os = some (true, openGood q loose, ())) (e2 : runObs p B M w os = some v) : runAll p q loose B M w os = some (true, openGood q loose, v) := by
  obtain ⟨s, r, l⟩ := Option.map_eq_some_iff.mp e1
  obtain ⟨s', r', l'⟩ := Option.map_eq_some_iff.mp e2
  obtain rfl : s = s' := Option.some.inj (r.symm.trans r')
  obtain ⟨l1, l2, -⟩ : _ ∧ _ ∧ _ := by simpa only [lookT, Prod.mk.injEq] using l
  unfold runAll
  rw [r]
  exact congrArg some (Prod.ext l1 (Prod.ext l2 l'))
theorem left_of {p q : Program} {loose : List Str} {β : Type} {Yf : Shared → β} {obs : SharedT → β} {v : β} {N M : Nat}
    (e : opening p = plainProg p.main.scope.names) (hN : Nat.ble 600 N = true) (f : ∀ s, fenceModules? p s = some s) (le : Nat.ble M N = true) (hY : ∀ s : SharedT, Yf s.abs = obs s)
    (run : ∀ (w : World) (os : OsState), runAll p q loose obs M w os = some (true, openGood q loose, v)) : LeftO p q loose (fun _ => true) Yf (fun _ => v) N := fun w => by
  have open_ := boot_open e hN f w
  obtain ⟨⟨h, gs, d, k, os⟩, e1, e2⟩ := Option.map_eq_some_iff.mp open_
  obtain ⟨rfl, rfl, rfl, rfl⟩ : h = boot_heap w.params ∧ gs = #[] ∧ d = boot_drawn ∧ k = boot_toks := by simpa using e2
  obtain ⟨z1, z2, z3⟩ : _ ∧ _ ∧ _ := by simpa only [Prod.mk.injEq] using boot_size w.params
  obtain ⟨sT, r0, l0⟩ := Option.map_eq_some_iff.mp (run w os)
  obtain ⟨l1, l2, l3⟩ : _ ∧ _ ∧ _ := by simpa only [lookT, Prod.mk.injEq] using l0
  have r1 := topRun_ofT r0
  rw [bootS_abs] at r1
  have r := topRun_mono (N - M) _ _ _ _ r1
  rw [show M + (N - M) = N by have := Nat.le_of_ble_eq_true le; omega] at r
  have t : topFrom treeTable p w N ⟨boot_heap w.params, #[], boot_drawn, boot_toks, os⟩ = some sT.abs := by
    unfold topFrom
    dsimp only
    rw [z1, z2, z3, r]
    show (match staticsOk (importedModules p.main.body) (boot_heap w.params) sT.abs.heap && namesBound p sT.abs.heap && gensDone sT.abs && laidKept (boot_heap w.params) sT.abs.heap with | true => _ | false => _) = _
    rw [l1]
  unfold openEnds
  rw [e1]
  show (topFrom treeTable p w N _).map _ = _
  rw [t]
  exact congrArg some (Prod.ext l2 ((hY sT).trans l3))
def Says {β : Type} (as : List Addr) (obs : Frag → β) (v : β) (_ : World) (h : Heap) : Prop := ∃ K : Frag, K.In h ∧ obs K = v
theorem Says.of {β : Type} {as : List Addr} {obs : Frag → β} {v : β} (w : World) (s : Shared) (e : obs (Kof as s.heap) = v) : Says as obs v w s.heap := ⟨_, Kof_in _ _, e⟩
theorem Says.keeps {β : Type} {as : List Addr} {obs : Frag → β} {v : β} (w : World) (h h' : Heap) (x : Says as obs v w h) (k : ∀ b o, h.get? b = some o → h'.get? b = some o) : Says as obs v w h' := x.imp fun _ z => ⟨z.1.keeps k, z.2⟩
theorem walk_ofE {l : PySem.W.OpenLaw} {n k : Nat} {q : Program} {loose : List Str} {XP : (Str → Option Value) → Heap → Prop} {β : Type} {as : List Addr} {obs : Frag → β} {v : β} {d : DefRec} {CX : CXT} {sp : Frag → Sp} {x : Str}
    (hn : l.most = some n) (hn2 : n ≤ sizeLine) (hdf : d.params.defaults = []) (hr : Room k callerA)
    (F : ∀ (w : World) (mg : Str → Option Value) (fa : Addr) (h : Heap) (K : Frag), obs K = v → K.In h → h.Ns mainGlobals mg → mg d.name = some (.ref fa) →
      ∃ fd : FuncData, (∀ (s : Shared) (u : Value), BindsTo s fd ⟨[u], []⟩ [(x, u)]) ∧
        ∀ base : Heap, K.In base → base.Ns mainGlobals mg → FnOk l.prog w K mg base CX k fa fd [x] (sp K))
    (hsp : ∀ (K : Frag) (H : Hp) (a : Addr) (ns : List Int), ns.length ≤ n → Only H → SqL K H a (ns.map V.int) → sp K [.ref a] H (fun v _ => v = .bl true) fun _ _ _ => False)
    (hCX : ∀ (H : Hp) (s : Shared) (e : Value) (s' : Shared), CX [] H s (fun _ _ _ => False) e s' → False) :
    PySem.W.WalkO q loose XP (Says as obs v) l.row.toRowW d [] (fun f vs => PySem.call f vs) := by
  refine Att.attach_call hn hdf fun w s₀ s₁ mg mb fa o pm cd doc a vs ns G Y ho hd hcd hmg hobj hints hlen hg => ?_
  obtain ⟨K, KX, KO⟩ := Y
  obtain ⟨fd, hb, hF⟩ := F w mg fa _ K KO KX G.T.g hmg
  exact law_call KX G.T.g G.T.b G.T.builtins G.T.nolimit hg hobj hints (Nat.le_trans hlen hn2) hr hF hb (fun H hO hS => hsp K H a ns hlen hO hS) fun H e s' => hCX H s₁ e s'
abbrev Seen := Option (Str × Str × Arguments × List Stmt × Scope × Addr × List (Str × Addr) × Addr × Bool × List Int)
def ints? : List Value → Option (List Int)
  | [] => some []
  | .int i _ :: r => (ints? r).map (i :: ·)
  | _ => none
def dfl (K : Frag) : Value → Option (List Int)
  | .none => some []
  | .ref d => match K.lookup d with
    | some ⟨_, _, .seq vs _, _⟩ => match ints? vs.toList with
      | some (i :: r) => some (i :: r)
      | _ => none
    | _ => none
  | _ => none
def seeF (K : Frag) (f : Addr) (qual : Str) : Seen := match K.lookup f with
  | some ⟨_, _, .func ⟨nm, q, ps, .stmts b, sc, g, cl, dV, _, _, _, _, cd, _, bi⟩, _⟩ => match dfl K dV with
    | some ds => some (nm, q, ps, b, sc, g, cl, bi, codeIn K cd qual && keepIn K (.ref f), ds)
    | none => none
  | _ => none
def seeD (K : Frag) (x : Str) : Seen := match nsIn K mainGlobals x with
  | some (some (.ref f)) => seeF K f x
  | _ => none
def seeM (K : Frag) (c x qual : Str) : Seen := match nsIn K mainGlobals c with
  | some (some (.ref C)) => match findIn K (.ref C) x with
    | some (some (.ref f)) => match isFn K (.ref f) with
      | true => seeF K f qual
      | false => none
    | _ => none
  | _ => none
def asks (x qual : Str) (st : Stmt) (ds : List Int) : Seen := some (x, qual, defArgs st, defBody st, defScope st, mainGlobals, [], builtinsNs, true, ds)
def seeC (K : Frag) (c : Str) (fs : List Str) : Bool := match nsIn K mainGlobals c with
  | some (some (.ref C)) => plainGet K C Str.empty && hasDictIn K C && plainOver K C && findIn K (.ref C) "__setattr__" == some (some (.builtin "object.__setattr__")) && makesIn K C && keepIn K (.ref C) && fs.all fun f => findIn K (.ref C) f == some none
  | _ => false
def seeE (K : Frag) (c : Str) : Bool := match nsIn K mainGlobals c with
  | some (some (.ref C)) => excIn K C bmV "ValueError.__new__"
  | _ => false
def seeX (K : Frag) (a b : Str) : Option Bool := match nsIn K mainGlobals a, nsIn K mainGlobals b with
  | some (some (.ref A)), some (some (.ref B)) => exmOne K (.ref A) (.ref B)
  | _, _ => none
def seeI (K : Frag) (x : Str) : Option Int := match nsIn K mainGlobals x with
  | some (some (.int i _)) => some i
  | _ => none
def seeZ (K : Frag) (x : Str) : Bool := match nsIn K mainGlobals x with
  | some none => true
  | _ => false
section
variable {K : Frag}
theorem dfl_none {v : Value} (e : dfl K v = some []) : v = .none := by
  unfold dfl at e
  split at e
  · rfl
  · repeat' split at e
    all_goals cases e
  · cases e
theorem ints_some : ∀ {vs : List Value} {is : List Int}, ints? vs = some is → ∃ ts : List Tok, ts.length = is.length ∧ vs = is.zipWith Value.int ts
  | [], is, e => by cases e; exact ⟨[], rfl, rfl⟩
  | v :: r, is, e => by
    unfold ints? at e
    split at e
    · cases e; rename_i h; cases h
    · rename_i i t r' h
      cases h
      cases h2 : ints? r with
      | none => rw [h2] at e; cases e
      | some js =>
        rw [h2] at e
        cases e
        obtain ⟨ts, hl, rfl⟩ := ints_some h2
        exact ⟨t :: ts, by simp [hl], rfl⟩
    · cases e
theorem dfl_cons {v : Value} {i : Int} {r : List Int} (e : dfl K v = some (i :: r)) : ∃ d cl di n sl ts, v = .ref d ∧ ts.length = (i :: r).length ∧ K.lookup d = some ⟨cl, di, .seq ((i :: r).zipWith Value.int ts).toArray n, sl⟩ := by
  unfold dfl at e
  split at e
  · cases e
  · rename_i d
    split at e
    · rename_i cl di vs n sl hl
      split at e
      · rename_i j r' h
        cases e
        obtain ⟨ts, h1, h2⟩ := ints_some h
        refine ⟨d, cl, di, n, sl, ts, rfl, h1, ?_⟩
        rw [hl, ← h2]
      · cases e
    · cases e
  · cases e
theorem seeF_of {f : Addr} {x qual : Str} {st : Stmt} {ds : List Int} (e : seeF K f qual = asks x qual st ds) : ∃ (oc : Value) (od : Option Addr) (sl : Array (Option Value)) (dV kV dc pm : Value) (an : Option Addr) (cd ct : Value),
    K.lookup f = some ⟨oc, od, .func (fnOf x qual (defArgs st) (defBody st) (defScope st) dV kV dc pm an cd ct), sl⟩ ∧ codeIn K cd qual = true ∧ keepIn K (.ref f) = true ∧ dfl K dV = some ds := by
  unfold seeF asks at e
  split at e
  · rename_i oc od nm q ps b sc g cl dV kV dc pm an cd ct bi sl hl
    split at e
    · rename_i ds' hd
      simp only [Option.some.injEq, Prod.mk.injEq, Bool.and_eq_true] at e
      obtain ⟨rfl, rfl, rfl, rfl, rfl, rfl, rfl, rfl, ⟨h1, h2⟩, rfl⟩ := e
      exact ⟨oc, od, sl, dV, kV, dc, pm, an, cd, ct, hl, h1, h2, hd⟩
    · cases e
  · cases e
theorem seeD_of {x : Str} {st : Stmt} (e : seeD K x = asks x x st []) : ∃ (f : Addr) (oc : Value) (od : Option Addr) (sl : Array (Option Value)) (kV dc pm : Value) (an : Option Addr) (cd ct : Value),
    nsIn K mainGlobals x = some (some (.ref f)) ∧ K.lookup f = some ⟨oc, od, .func (fnOf x x (defArgs st) (defBody st) (defScope st) .none kV dc pm an cd ct), sl⟩ ∧ codeIn K cd x = true ∧ keepIn K (.ref f) = true := by
  unfold seeD at e
  split at e
  · rename_i f hf
    obtain ⟨oc, od, sl, dV, kV, dc, pm, an, cd, ct, h1, h2, h3, h4⟩ := seeF_of e
    cases dfl_none h4
    exact ⟨f, oc, od, sl, kV, dc, pm, an, cd, ct, hf, h1, h2, h3⟩
  · cases e
theorem seeM_ {C : Addr} {c x qual : Str} {st : Stmt} {ds : List Int} (hc : nsIn K mainGlobals c = some (some (.ref C))) (e : seeM K c x qual = asks x qual st ds) : ∃ f : Addr, findIn K (.ref C) x = some (some (.ref f)) ∧ isFn K (.ref f) = true ∧ seeF K f qual = asks x qual st ds := by
  unfold seeM at e
  rw [hc] at e
  dsimp only at e
  split at e
  · rename_i f hf
    split at e
    · rename_i h
      exact ⟨f, hf, h, e⟩
    · cases e
  · cases e
theorem seeM_of {C : Addr} {c x qual : Str} {st : Stmt} (hc : nsIn K mainGlobals c = some (some (.ref C))) (e : seeM K c x qual = asks x qual st []) : ∃ (f : Addr) (oc : Value) (od : Option Addr) (sl : Array (Option Value)) (kV dc pm : Value) (an : Option Addr) (cd ct : Value),
    findIn K (.ref C) x = some (some (.ref f)) ∧ isFn K (.ref f) = true ∧ K.lookup f = some ⟨oc, od, .func (fnOf x qual (defArgs st) (defBody st) (defScope st) .none kV dc pm an cd ct), sl⟩ ∧ codeIn K cd qual = true ∧ keepIn K (.ref f) = true := by
  obtain ⟨f, hf, hi, e⟩ := seeM_ hc e
  obtain ⟨oc, od, sl, dV, kV, dc, pm, an, cd, ct, h1, h2, h3, h4⟩ := seeF_of e
  cases dfl_none h4
  exact ⟨f, oc, od, sl, kV, dc, pm, an, cd, ct, hf, hi, h1, h2, h3⟩
theorem seeM1_of {C : Addr} {c x qual : Str} {st : Stmt} {i : Int} (hc : nsIn K mainGlobals c = some (some (.ref C))) (e : seeM K c x qual = asks x qual st [i]) : ∃ (f : Addr) (oc : Value) (od : Option Addr) (sl : Array (Option Value)) (d : Addr) (kV dc pm : Value) (an : Option Addr) (cd ct : Value) (dcl : Value) (ddi : Option Addr) (dn : Nat) (dsl : Array (Option Value)) (tk : Tok),
    findIn K (.ref C) x = some (some (.ref f)) ∧ isFn K (.ref f) = true ∧ K.lookup f = some ⟨oc, od, .func (fnOf x qual (defArgs st) (defBody st) (defScope st) (.ref d) kV dc pm an cd ct), sl⟩ ∧ codeIn K cd qual = true ∧ keepIn K (.ref f) = true ∧ K.lookup d = some ⟨dcl, ddi, .seq #[.int i tk] dn, dsl⟩ := by
  obtain ⟨f, hf, hi, e⟩ := seeM_ hc e
  obtain ⟨oc, od, sl, dV, kV, dc, pm, an, cd, ct, h1, h2, h3, h4⟩ := seeF_of e
  obtain ⟨d, cl, di, n, sl', ts, rfl, hl, h5⟩ := dfl_cons h4
  match ts, hl with
  | [t], _ => exact ⟨f, oc, od, sl, d, kV, dc, pm, an, cd, ct, cl, di, n, sl', t, hf, hi, h1, h2, h3, h5⟩
theorem seeC_of {c : Str} {fs : List Str} (e : seeC K c fs = true) : ∃ C : Addr, nsIn K mainGlobals c = some (some (.ref C)) ∧ plainGet K C Str.empty = true ∧ hasDictIn K C = true ∧ plainOver K C = true ∧
    findIn K (.ref C) "__setattr__" = some (some (.builtin "object.__setattr__")) ∧ makesIn K C = true ∧ keepIn K (.ref C) = true ∧ ∀ f ∈ fs, findIn K (.ref C) f = some none := by
  unfold seeC at e
  split at e
  · rename_i C hC
    simp only [Bool.and_eq_true, beq_iff_eq, List.all_eq_true] at e
    obtain ⟨⟨⟨⟨⟨⟨h1, h2⟩, h3⟩, h4⟩, h5⟩, h6⟩, h7⟩ := e
    exact ⟨C, hC, h1, h2, h3, h4, h5, h6, h7⟩
  · cases e
theorem seeE_of {c : Str} (e : seeE K c = true) : ∃ C : Addr, nsIn K mainGlobals c = some (some (.ref C)) ∧ excIn K C [.type "ValueError", .type "Exception", .type "BaseException", .type "object"] "ValueError.__new__" = true := by
  unfold seeE at e
  split at e
  · rename_i C hC
    exact ⟨C, hC, e⟩
  · cases e
theorem seeX_of {a b : Str} {A B : Addr} {r : Bool} (ha : nsIn K mainGlobals a = some (some (.ref A))) (hb : nsIn K mainGlobals b = some (some (.ref B))) (e : seeX K a b = some r) : exmOne K (.ref A) (.ref B) = some r := by
  unfold seeX at e
  rw [ha, hb] at e
  exact e
theorem seeI_of {x : Str} {i : Int} (e : seeI K x = some i) : ∃ t : Tok, nsIn K mainGlobals x = some (some (.int i t)) := by
  unfold seeI at e
  split at e
  · rename_i j t h
    cases e
    exact ⟨t, h⟩
  · cases e
theorem seeZ_of {x : Str} (e : seeZ K x = true) : nsIn K mainGlobals x = some none := by
  unfold seeZ at e
  split at e
  · assumption
  · cases e
end
end TG
namespace TG
open PySem PySem.W
theorem noRecs {R : WRecords} {h : Heap} (e : R = []) : RecFacts R h := by
  subst e
  exact ⟨fun x hx => (nomatch hx), fun x hx => (nomatch hx), fun c c' a (hc : false = true) => (nomatch hc), fun c fs (hf : none = some fs) => (nomatch hf)⟩
end TG
set_option Elab.async false
set_option linter.all false
set_option maxRecDepth 100000
set_option maxHeartbeats 4000000
namespace TG
open PySem L2
theorem ifTaken {c A B : Prop} [Decidable c] {H : Hp} {D : Addr} {k : V} {o : Option V} (gt : DGet H D k o) (hA : c → o.isSome = true → A) (hB : (c → o.isSome = false) → B) :
    if decide c = true then (∃ x, DGet H D k x ∧ if x.isSome = true then A else B) else B := by
  by_cases hc : c
  · rw [if_pos (decide_eq_true hc)]
    refine ⟨o, gt, ?_⟩
    cases ho : o.isSome with
    | true => rw [if_pos rfl]; exact hA hc ho
    | false => rw [if_neg Bool.false_ne_true]; exact hB fun _ => ho
  · rw [if_neg (fun z => hc (of_decide_eq_true z))]
    exact hB fun z => absurd z hc
end TG
namespace L2
open PySem
theorem tTry_gen {K : PySem.W.Frag} {tb : (Value → St → Hp → Prop) → TS} {ths : List (Value × TS)} {D : Ends} {σ : St} {H : Hp} (h : ∀ N : Value → St → Hp → Prop, (∀ cls σ' H', tHs K ths cls D σ' H' → N cls σ' H') → tb N D σ H) : tTry K tb ths D σ H := h _ fun _ _ _ z => z
end L2
namespace TG
open PySem L2
theorem Kp.free {b P : Addr} {H H' : Hp} (k : Kp b P H H') (hb : ∃ u, H' b = some u) (hP : ∃ u, H' P = some u) {D : Addr} (n : H' D = none) : H D = none := by
  cases q : H D with
  | none => rfl
  | some u =>
    by_cases h1 : D = b
    · obtain ⟨_, e⟩ := hb
      rw [← h1, n] at e; cases e
    · by_cases h2 : D = P
      · obtain ⟨_, e⟩ := hP
        rw [← h2, n] at e; cases e
      · rw [k D u h1 h2 q] at n; cases n
theorem Bch.live {C : Addr} {H : Hp} {b S P : Addr} {ow : List Addr} {gs : List G} {past : List (List G)} (h : Bch C H b S P ow gs past) : (∃ u, H b = some u) ∧ ∃ u, H P = some u := by
  obtain ⟨_, e⟩ := h.at_
  obtain ⟨_, e2, _⟩ := h.pa
  exact ⟨⟨_, e⟩, ⟨_, e2⟩⟩
theorem deedP_on {w : Str} {gs : List G} {past : List (List G)} {p : Int} (nb : w ≠ "back") : deedP w gs past p = past ++ [gs] := if_neg nb
theorem deedG_on {w : Str} {gs : List G} {past : List (List G)} {p x y : Int} (nb : w ≠ "back") (nt : w ≠ "take") : deedG w gs past p x y = put1 gs p [⟨p, (would w gs p x y).1, (would w gs p x y).2⟩] := by
  unfold deedG
  rw [if_neg nb, if_neg nt]
theorem deedG_take {w : Str} {gs : List G} {past : List (List G)} {p x y : Int} (e : w = "take") : deedG w gs past p x y = put1 gs p [] := by
  unfold deedG
  rw [if_neg (by rw [e]; decide), if_pos e]
theorem would_put {w : Str} {gs : List G} {p x y : Int} (e : w = "put") : would w gs p x y = (x, y) := if_pos e
theorem would_lift {w : Str} {gs : List G} {p x y : Int} {g : G} (e : w = "lift") (hg : gateOf gs p = some g) : would w gs p x y = (g.f + x, g.h + y) := by
  unfold would
  rw [if_neg (by rw [e]; decide), if_pos e, hg]
  rfl
theorem would_sink {w : Str} {gs : List G} {p x y : Int} {g : G} (e : w = "sink") (hg : gateOf gs p = some g) : would w gs p x y = (g.f + -x, g.h + -y) := by
  unfold would
  rw [if_neg (by rw [e]; decide), if_neg (by rw [e]; decide), if_pos e, hg]
  show (g.f - x, g.h - y) = _
  rw [Int.sub_eq_add_neg, Int.sub_eq_add_neg]
theorem would_take {w : Str} {gs : List G} {p x y : Int} {g : G} (e : w = "take") (hg : gateOf gs p = some g) : would w gs p x y = (g.f, g.h) := by
  unfold would
  rw [if_neg (by rw [e]; decide), if_neg (by rw [e]; decide), if_neg (by rw [e]; decide), hg]
  rfl
theorem deedE_put {w : Str} {gs : List G} {past : List (List G)} {p x y : Int} (e : w = "put") : deedE w gs past p x y = putE gs past p x y := by
  unfold deedE
  rw [if_neg (by rw [e]; decide), if_pos e]
theorem deedE_take {w : Str} {gs : List G} {past : List (List G)} {p x y : Int} (e : w = "take") : deedE w gs past p x y = takeE gs past p := by
  unfold deedE
  rw [if_neg (by rw [e]; decide), if_neg (by rw [e]; decide), if_pos e]
theorem deedE_lift {w : Str} {gs : List G} {past : List (List G)} {p x y : Int} (e : w = "lift") : deedE w gs past p x y = liftE gs past p x y := by
  unfold deedE
  rw [if_neg (by rw [e]; decide), if_neg (by rw [e]; decide), if_neg (by rw [e]; decide), if_pos e]
theorem deedE_sink {w : Str} {gs : List G} {past : List (List G)} {p x y : Int} (e : w = "sink") : deedE w gs past p x y = liftE gs past p (-x) (-y) := by
  unfold deedE
  rw [if_neg (by rw [e]; decide), if_neg (by rw [e]; decide), if_neg (by rw [e]; decide), if_neg (by rw [e]; decide)]
theorem deedE_back {w : Str} {gs : List G} {past : List (List G)} {p x y : Int} (e : w = "back") : deedE w gs past p x y = backE past p := if_pos e
theorem Wrd.last {w : Str} (h : Wrd w) (h1 : w ≠ "put") (h2 : w ≠ "take") (h3 : w ≠ "lift") (h4 : w ≠ "sink") : w = "back" := by
  rcases h with e | e | e | e | e
  · exact absurd e h1
  · exact absurd e h2
  · exact absurd e h3
  · exact absurd e h4
  · exact e
end TG
namespace TG
open PySem L2
def DL (D L : Addr) (H H' : Hp) : Prop := ∀ a u, a ≠ D → a ≠ L → H a = some u → H' a = some u
theorem DL.of {D L : Addr} {H H' : Hp} (s : Same H H') : DL D L H H' := fun _ _ _ _ e => s _ _ e
theorem DL.trans {D L : Addr} {H H1 H2 : Hp} (a : DL D L H H1) (b : DL D L H1 H2) : DL D L H H2 := fun c u h1 h2 e => b c u h1 h2 (a c u h1 h2 e)
theorem DL.updD {D L : Addr} {H : Hp} {o : HO} : DL D L H (upd H D o) := fun _ _ h _ e => (upd_ne h).trans e
theorem DL.updL {D L : Addr} {H : Hp} {o : HO} : DL D L H (upd H L o) := fun _ _ _ h e => (upd_ne h).trans e
section
variable {C D L b S P : Addr} {ow : List Addr} {gs : List G} {past : List (List G)} {H H' : Hp} {kvs : List (Key × V)} {xs : List V}
theorem DL.tup (k : DL D L H H') (eD : H D = some (.dK kvs)) (eL : H L = some (.lst xs)) {a : Addr} {ys : List V} (e : H a = some (.tup ys)) : H' a = some (.tup ys) :=
  k a _ (ne_of e eD fun z => by cases z) (ne_of e eL fun z => by cases z) e
theorem DL.dk (k : DL D L H H') (eL : H L = some (.lst xs)) {a : Addr} {ys : List (Key × V)} (ha : a ≠ D) (e : H a = some (.dK ys)) : H' a = some (.dK ys) :=
  k a _ ha (ne_of e eL fun z => by cases z) e
theorem Bch.dl (hb : Bch C H b S P ow gs past) (eD : H D = some (.dK kvs)) (eL : H L = some (.lst xs)) (hL : L ∉ ow) (k : DL D L H H') : Bch C H' b S P ow gs past :=
  hb.keep fun a u h e => by
    rcases h with h | h | ⟨ys, h⟩
    · obtain ⟨dx, eb⟩ := hb.at_
      subst h
      exact k a u (ne_of eb eD fun z => by cases z) (ne_of eb eL fun z => by cases z) e
    · obtain ⟨zs, ea⟩ := hb.lv a h
      exact k a u (ne_of ea eD fun z => by cases z) (fun z => hL (z ▸ h)) e
    · subst h
      exact k.tup eD eL e
theorem Kept.dl (eD : H D = some (.dK kvs)) (eL : H L = some (.lst xs)) (k : DL D L H H') (lD : ∃ u, H' D = some u) (lL : ∃ u, H' L = some u) : Kept (L :: ow) H H' (L :: ow) where
  tup := fun c ys e => k.tup eD eL e
  lst := fun c ys n e => k c _ (ne_of e eD fun z => by cases z) (fun z => n (by rw [z]; exact List.mem_cons_self)) e
  frz := fun c o u e => k c _ (ne_of e eD fun z => by cases z) (ne_of e eL fun z => by cases z) e
  off := fun _ h => .inl h
  live := fun c u e => by
    by_cases h1 : c = D
    · rw [h1]; exact lD
    · by_cases h2 : c = L
      · rw [h2]; exact lL
      · exact ⟨u, k c u h1 h2 e⟩
theorem DkAt.copy {d d' : Addr} (h : DkAt H d gs) (e : H d = some (.dK kvs)) (e' : H' d' = some (.dK kvs)) (kt : ∀ a ys, H a = some (.tup ys) → H' a = some (.tup ys)) : DkAt H' d' gs := by
  obtain ⟨kvs', ks, e1, e2, p, q⟩ := h.at_
  rw [e] at e1
  cases e1
  exact ⟨kvs, ks, e', e2, p, fun g hg => (q g hg).imp fun a z => ⟨z.1, kt _ _ z.2⟩⟩
theorem DkAt.dl {d : Addr} (h : DkAt H d gs) (hd : d ≠ D) (eD : H D = some (.dK kvs)) (eL : H L = some (.lst xs)) (k : DL D L H H') : DkAt H' d gs :=
  h.keep (fun _ e => k.dk eL hd e) fun _ _ e => k.tup eD eL e
theorem Paired.dl {ds : List Addr} (pr : Paired (DkAt H) ds past) (hd : D ∉ ds) (eD : H D = some (.dK kvs)) (eL : H L = some (.lst xs)) (k : DL D L H H') : Paired (DkAt H') ds past :=
  Paired.keepM pr fun x y hx q => q.dl (D := D) (fun z => hd (by rw [← z]; exact hx)) eD eL k
end
end TG
namespace L2
theorem tyV_d {K : PySem.W.Frag} {H : Hp} {p : PySem.Addr} {kvs : List (Key × V)} (e : H p = some (.dK kvs)) : tyV K "dict" (.ref p) H := .inr (.inr (.inl ⟨rfl, .inl ⟨_, e⟩⟩))
theorem tyV_l {K : PySem.W.Frag} {H : Hp} {p : PySem.Addr} {xs : List V} (e : H p = some (.lst xs)) : tyV K "list" (.ref p) H := .inl ⟨rfl, _, SqL.of e⟩
end L2
namespace TG
open PySem L2
theorem aft_err {w : Str} {gs : List G} {past : List (List G)} {p x y : Int} {e : Err} (h : deedE w gs past p x y = some e) : aft w gs past p x y = (gs, past) := by unfold aft; rw [h]
theorem aft_ok {w : Str} {gs : List G} {past : List (List G)} {p x y : Int} (h : deedE w gs past p x y = none) : aft w gs past p x y = (deedG w gs past p x y, deedP w gs past p) := by unfold aft; rw [h]
theorem sqt_keep {K : PySem.W.Frag} {H H' : Hp} {a : Addr} {xs : List V} (h : SqT K H a xs) (k : ∀ ys, H a = some (.tup ys) → H' a = some (.tup ys)) (kf : ∀ o u, H a = some (.frz o u) → H' a = some (.frz o u)) : SqT K H' a xs := by
  rcases h with (h | ⟨o, h⟩) | h
  · exact .inl (.inl (k _ h))
  · exact .inl (.inr ⟨o, kf _ _ h⟩)
  · exact .inr h
theorem Bch.sqt {K : PySem.W.Frag} {C : Addr} {H H' : Hp} {b S P : Addr} {ow : List Addr} {gs : List G} {past : List (List G)} (h : Bch C H b S P ow gs past) (k : Kp b P H H') {a : Addr} {xs : List V} (e : SqT K H a xs) : SqT K H' a xs :=
  sqt_keep e (fun _ e => h.tup k e) fun _ _ e => k a _ (h.neb e fun _ _ _ z => by cases z) (h.nep e fun _ z => by cases z) e
theorem Kept.sqt {K : PySem.W.Frag} {ow ow' : List Addr} {H H' : Hp} (k : Kept ow H H' ow') {a : Addr} {xs : List V} (e : SqT K H a xs) : SqT K H' a xs := sqt_keep e (fun _ e => k.tup _ _ e) fun _ _ e => k.frz _ _ _ e
end TG
set_option Elab.async false
set_option linter.all false
set_option maxRecDepth 100000
set_option maxHeartbeats 4000000
namespace L2
open PySem
def isInt : V → Bool
  | .int _ => true
  | _ => false
theorem atI_some {l : List V} {e : Int} (h : l.all isInt = true) (h0 : 0 ≤ e) (h1 : e < l.length) : ∃ i, atI l e = some (.int i) := by
  have hj : e.toNat < l.length := by omega
  have hi := List.all_eq_true.mp h _ (List.getElem_mem hj)
  have q : atI l e = some l[e.toNat] := by
    obtain ⟨j, rfl⟩ : ∃ j : Nat, e = j := ⟨e.toNat, by omega⟩
    have hj' : j < l.length := by omega
    have z : ixN l.length (j : Int) = some j := by unfold ixN; simp; omega
    unfold atI
    rw [z]
    exact List.getElem?_eq_getElem hj'
  cases hv : l[e.toNat] with
  | int i => exact ⟨i, by rw [q, hv]⟩
  | _ => rw [hv] at hi; cases hi
end L2
namespace L2
theorem exInt {l : List V} {e : Int} {P : V → Prop} (h : l.all isInt = true) (h0 : 0 ≤ e) (h1 : e < l.length) (k : ∀ i, P (.int i)) : ∃ x, atI l e = some x ∧ P x := by
  obtain ⟨i, hi⟩ := atI_some h h0 h1
  exact ⟨_, hi, k i⟩
end L2
namespace TG
open PySem L2
theorem aft_lift {gs : List G} {past : List (List G)} {p x y : Int} (h : gs ≠ []) : (aft "lift" gs past p x y).1 ≠ [] := by
  cases he : deedE "lift" gs past p x y with
  | some e => rw [aft_err he]; exact h
  | none =>
    rw [aft_ok he]
    show deedG "lift" gs past p x y ≠ []
    rw [deedG_on (by decide) (by decide)]
    intro z
    have := (mem_put1 (gs := gs) (p := p) (o := [⟨p, (would "lift" gs p x y).1, (would "lift" gs p x y).2⟩]) (g := ⟨p, (would "lift" gs p x y).1, (would "lift" gs p x y).2⟩)).mpr (.inr (List.mem_singleton.mpr rfl))
    rw [z] at this
    cases this
theorem sortD0 {K : PySem.W.Frag} {H : Hp} {D : Addr} {gs : List G} (hd : DkAt H D gs) (l40 : gs.length ≤ 40) : ∃ (kvs : List (Key × V)) (ks : List Int), H D = some (.dK kvs) ∧ kvs.map (·.1) = ks.map Sum.inl ∧ ks.length = gs.length ∧ kvs.length = gs.length ∧ ks.length < 64 := by
  obtain ⟨kvs, ks, eD, e2, pm, _⟩ := hd.at_
  have lk := pm.length_eq
  rw [List.length_map] at lk
  have lkv : kvs.length = ks.length := by have := congrArg List.length e2; simpa using this
  exact ⟨kvs, ks, eD, e2, lk, by omega, by omega⟩
end TG
namespace L2
open PySem PySem.Spec PyProof.Rows
theorem take_range (ns : List Int) : ∀ i, i ≤ ns.length → (List.range i).map (fun i => ns.getD i 0) = ns.take i
  | 0, _ => rfl
  | i + 1, h => by
    rw [List.range_succ, List.map_append, take_range ns i (by omega), List.take_succ_eq_append_getElem (show i < ns.length by omega)]
    congr 1
    show [ns.getD i 0] = _
    rw [List.getD_eq_getElem?_getD, List.getElem?_eq_getElem (show i < ns.length by omega)]
    rfl
theorem met_nodup (ns : List Int) : ∀ i, i ≤ ns.length → ((firstMet (fun i => ns.getD i 0) i).length = i ↔ (ns.take i).Nodup)
  | 0, _ => ⟨fun _ => List.nodup_nil, fun _ => rfl⟩
  | i + 1, h => by
    have hi : i < ns.length := by omega
    have ih := met_nodup ns i (by omega)
    have le := firstMet_length_le (fun i => ns.getD i 0) i
    have hv : ns.getD i 0 = ns[i] := by
      rw [List.getD_eq_getElem?_getD, List.getElem?_eq_getElem hi]
      rfl
    have ha : (firstMet (fun i => ns.getD i 0) i).any (· == ns.getD i 0) = true ↔ ns[i] ∈ ns.take i := by
      rw [firstMet_any, take_range ns i (by omega), hv, List.any_eq_true]
      constructor
      · rintro ⟨x, hx, e⟩
        rw [← (beq_iff_eq.mp e)]; exact hx
      · intro hx
        exact ⟨_, hx, beq_iff_eq.mpr rfl⟩
    rw [firstMet_succ, step_length, List.take_succ_eq_append_getElem hi, List.nodup_append]
    by_cases hc : ns[i] ∈ ns.take i
    · rw [if_pos (ha.mpr hc)]
      constructor
      · intro z; omega
      · rintro ⟨_, _, z⟩
        exact absurd rfl (z _ hc _ (List.mem_singleton.mpr rfl))
    · rw [if_neg (fun z => hc (ha.mp z))]
      constructor
      · intro z
        refine ⟨ih.mp (by omega), (by simp), fun a ha' b hb e => ?_⟩
        rw [List.mem_singleton.mp hb] at e
        exact hc (e ▸ ha')
      · rintro ⟨z, _⟩
        have := ih.mpr z
        omega
section
variable {X : Cx}
def rSetI (K : PySem.W.Frag) : List V → Hp → VK → Prop := fun xs H Q => ∃ l, xs = [.ref l] ∧ ∃ ns : List Int, SqL K H l (ns.map V.int) ∧ ns.length < 4000 ∧
  ∀ (D : Addr) (H' : Hp) (S : Int → Bool) (n : Nat), H D = none → Same H H' → H' D = some (.set S n) → n ≤ ns.length → (n = ns.length ↔ ns.Nodup) → Q (.ref D) H'
theorem call_setI (hc : X.calm = true) : CallR X (.type "set") (rSetI X.K) := by
  intro pins s σ H xs us Q I r h
  obtain ⟨l, rfl, ns, hl, h4, q⟩ := h
  obtain ⟨u, rfl, ru⟩ := vals1 r
  cases ru
  obtain ⟨its, rv, pl, hz⟩ := I.list hl
  have hlen := rv.length
  rw [List.length_map] at hlen
  have hn : its.toArray.size = ns.length := by rw [List.size_toArray, ← hlen]
  refine call_set_list (I.ok.hd hc) pl.isList (intsAre_of rv) (by rw [hn]; unfold scanBound; omega) fun h' tk hS kp => ?_
  rw [hn] at hS
  have hfr : H s.heap.objs.size = none := I.hok.fresh (Nat.le_refl _)
  have hm := met_nodup ns ns.length (Nat.le_refl _)
  rw [List.take_length] at hm
  exact ⟨.ref s.heap.objs.size, _, I.laid (t' := tk) (fun b o e => kp b o (Heap.lt_size e) e) (Nat.le_refl _) (show ObjOk X.prog X.w _ h' _ (.set _ _) from hS), rfl, q _ _ _ _ hfr (same_upd hfr) upd_same (firstMet_length_le _ _) hm⟩
def rLenS : List V → Hp → VK → Prop := fun xs H Q => ∃ a, xs = [V.ref a] ∧ ∃ (S : Int → Bool) (n : Nat), H a = some (.set S n) ∧ Q (.int n) H
theorem call_lenS : CallR X (.builtin "len") rLenS := by
  intro pins s σ H xs us Q I r h
  obtain ⟨a, rfl, S, n, ha, q⟩ := h
  obtain ⟨u, rfl, ru⟩ := vals1 r
  cases ru
  obtain ⟨o, es, ep, t, hg, hex, hd, _, _, hsz, hf, rfl⟩ := (show s.heap.SetOf (intKind X.prog X.w) a S n from I.hok a _ ha)
  exact call_len_set hg hex hd hf (by unfold scanBound at hsz; omega) ⟨.int es.size, H, I.tok _, ⟨_, rfl⟩, q⟩
end
end L2
namespace TG
open PySem L2
def picks (gs : List G) (ps : List Int) : List G := ps.filterMap (gateOf gs)
theorem picks_mem {gs : List G} {ps : List Int} {g : G} (h : g ∈ picks gs ps) : g ∈ gs := by
  obtain ⟨p, _, e⟩ := List.mem_filterMap.mp h
  exact (gateOf_some e).1
theorem picks_places {gs : List G} : ∀ {ps : List Int}, (∀ p ∈ ps, p ∈ places gs) → places (picks gs ps) = ps
  | [], _ => rfl
  | p :: ps, h => by
    have ih := picks_places (gs := gs) (ps := ps) fun q hq => h q (List.mem_cons_of_mem _ hq)
    cases hg : gateOf gs p with
    | none => exact absurd (h p List.mem_cons_self) (gateOf_none.mp hg)
    | some g =>
      have e : picks gs (p :: ps) = g :: picks gs ps := by unfold picks; rw [List.filterMap_cons, hg]
      rw [e]
      show g.p :: places (picks gs ps) = _
      rw [ih, (gateOf_some hg).2]
theorem picks_len {gs : List G} {ps : List Int} (h : ∀ p ∈ ps, p ∈ places gs) : (picks gs ps).length = ps.length := by
  have := congrArg List.length (picks_places h)
  rwa [List.length_map] at this
theorem picks_of {gs : List G} (ha : Asc gs) {ps : List Int} {g : G} (hg : g ∈ picks gs ps) : gateOf gs g.p = some g := gateOf_eq ha (picks_mem hg)
theorem comp_at {K : PySem.W.Frag} {a : Addr} {gs : List G} {te : TE} {caps : St} {D : Addr} {H1 : Hp} {Q : Hp → Prop} (hl : SqL K H1 a ((places gs).map V.int)) (hD : H1 D = none) (hz : gs.length ≤ 1000)
    (he : ∀ g H (R : VK), g ∈ gs → Same H1 H → (∀ p, H p = some (.tup (G.vs g)) → R (.ref p) H) → te (some (.int g.p) :: caps) H R)
    (hd : ∀ H as, Same H1 H → H D = some (.lst (as.map V.ref)) → GsAt H as gs → Q H) : cLoop te tYes caps (Itl K a) D H1 Q := by
  have hlen : ((places gs).map V.int).length = gs.length := by rw [List.length_map, List.length_map]
  refine comp_list (xs := (places gs).map V.int) (fun i ys H => ∃ as : List Addr, ys = as.map V.ref ∧ Same H1 H ∧ H D = some (.lst ys) ∧ GsAt H as (gs.take i)) ⟨[], rfl, same_upd hD, upd_same, .nil⟩ (fun _ _ H _ ⟨_, _, s1, _⟩ => s1.seq hl) ?_ ?_
  · rintro i x ys H hx hy ⟨as, rfl, s1, e1, g1⟩
    have hi : i < gs.length := by
      have := (List.getElem?_eq_some_iff.mp hx).1
      omega
    have ex : x = V.int gs[i].p := by
      rw [List.getElem?_map, List.getElem?_map, List.getElem?_eq_getElem hi] at hx
      exact (Option.some.inj hx).symm
    subst ex
    have et : gs.take (i + 1) = gs.take i ++ [gs[i]] := List.take_succ_eq_append_getElem hi
    refine he gs[i] H _ (List.getElem_mem hi) s1 fun p ep => CNext.of (by rw [hlen, PySem.sizeLine_eq]; omega) (by omega) hy e1 ⟨as ++ [p], by rw [List.map_append]; rfl, s1.updFresh hD, upd_same, ?_⟩
    rw [et]
    have kt : ∀ a xs, H a = some (.tup xs) → upd H D (.lst (as.map V.ref ++ [V.ref p])) a = some (.tup xs) := fun a xs e => (upd_ne (ne_of e e1 fun z => by cases z)).trans e
    exact GsAt.append (g1.keep kt) (.cons (kt _ _ ep) .nil)
  · rintro ys H hy ⟨as, rfl, s1, e1, g1⟩
    rw [hlen, List.take_length] at g1
    exact hd H as s1 e1 g1
def badL (ps : List Int) : Prop := ps = [] ∨ 40 < ps.length ∨ ¬ ps.Nodup
end TG
namespace L2
open PySem
theorem bo_set : bootBuiltins "set" = some (.type "set") := by decide +kernel
end L2
namespace L2
open PySem PySem.Spec PyProof.Rows
section
variable {X : Cx}
def rEqLI (K : PySem.W.Frag) : R2 := fun x y H Q => ∃ a b, x = .ref a ∧ y = .ref b ∧ ∃ ns : List Int, SqL K H a (ns.map V.int) ∧ ∃ ms : List Int, SqL K H b (ms.map V.int) ∧ Q (.bl (decide (ns = ms))) H
theorem op_eqLI (hu : X.A.units < cLine) : OpR X (compareOp .Eq) (rEqLI X.K) := by
  intro pins s σ H x y v u Q I rx ry h
  obtain ⟨a, b, rfl, rfl, ns, h1, ms, h2, q⟩ := h
  cases rx
  cases ry
  obtain ⟨i1, r1, t1, _⟩ := I.list h1
  obtain ⟨i2, r2, t2, _⟩ := I.list h2
  have l1 := r1.length
  have l2 := r2.length
  rw [List.length_map] at l1 l2
  by_cases hl : ns.length = ms.length
  · refine SeqAt.eq_listAt (e := fun j => decide (ns[j]? = ms[j]?)) t1.isList t2.isList (by simpa [← l1, ← l2] using hl) hu (fun j h1 h2 => ?_) ?_
    · have j1 : j < ns.length := by simpa [l1] using h1
      have j2 : j < ms.length := by simpa [l2] using h2
      obtain ⟨u1, e1, k1⟩ := r1.get (i := j) (x := .int ns[j]) (by rw [List.getElem?_map, List.getElem?_eq_getElem j1]; rfl)
      obtain ⟨u2, e2, k2⟩ := r2.get (i := j) (x := .int ms[j]) (by rw [List.getElem?_map, List.getElem?_eq_getElem j2]; rfl)
      obtain ⟨q1, rfl⟩ := k1
      obtain ⟨q2, rfl⟩ := k2
      have g1 : i1.toArray[j] = Value.int ns[j] q1 := by
        have := (List.getElem?_eq_some_iff.mp e1).2
        simpa using this
      have g2 : i2.toArray[j] = Value.int ms[j] q2 := by
        have := (List.getElem?_eq_some_iff.mp e2).2
        simpa using this
      rw [g1, g2]
      have ed : decide (ns[j]? = ms[j]?) = (ns[j] == ms[j]) := by
        rw [List.getElem?_eq_getElem j1, List.getElem?_eq_getElem j2, Bool.eq_iff_iff]
        simp
      rw [ed]
      exact fun prog w E Q h => wpAny_eqBool_int h
    · refine ⟨.bl _, H, I, rfl, ?_⟩
      have e : (List.range i1.toArray.size).all (fun j => decide (ns[j]? = ms[j]?)) = decide (ns = ms) := by
        have := all_eq_dec ns ms
        rw [beq_iff_eq.mpr hl, Bool.and_true, hl, Nat.min_self] at this
        rw [List.size_toArray, ← l1, hl]
        exact this
      rw [e]
      exact q
  · rw [decide_eq_false (fun z => hl (by rw [z]))] at q
    exact SeqAt.eq_list_lengthsAt t1.isList t2.isList (by simpa [← l1, ← l2] using hl) hu ⟨.bl false, H, I, rfl, q⟩
end
end L2
namespace TG
open PySem L2
theorem sortS {K : PySem.W.Frag} {H : Hp} {D : Addr} {gs : List G} {Q : VK} (hd : DkAt H D gs) (sd : Std gs) (k : ∀ (R : Addr) (H' : Hp), H R = none → Same H H' → H' R = some (.lst ((places gs).map V.int)) → Q (.ref R) H') : rSortD K [.ref D] H Q := by
  obtain ⟨kvs, ks, eD, e2, pm, _⟩ := hd.at_
  have lk := pm.length_eq
  rw [List.length_map] at lk
  refine ⟨D, rfl, kvs, ks, eD, e2, by have := sd.len; omega, fun R H' ks' n s e pm' so => ?_⟩
  have ek : ks' = places gs := le_perm_eq so (asc_lt_places sd.asc) (pm'.trans pm)
  subst ek
  exact k R H' n s e
end TG
namespace TG
theorem sub_len : ∀ {xs ys : List Int}, xs.Nodup → (∀ x ∈ xs, x ∈ ys) → xs.length ≤ ys.length
  | [], _, _, _ => Nat.zero_le _
  | x :: xs, ys, nd, h => by
    have hx := h x List.mem_cons_self
    rw [List.nodup_cons] at nd
    have := sub_len (xs := xs) (ys := ys.erase x) nd.2 fun y hy => (List.mem_erase_of_ne (fun e => nd.1 (by rw [← e]; exact hy))).mpr (h y (List.mem_cons_of_mem _ hy))
    rw [List.length_erase_of_mem hx] at this
    have := List.length_pos_of_mem hx
    rw [List.length_cons]
    omega
end TG
namespace TG
open PySem L2
theorem for_enumS {K : PySem.W.Frag} {D : Addr} {H : Hp} {gs : List G} {g : TG} {tb : TS} {De : Ends} {σ : St} {i : Nat} (hv : σ[i]? = some (some (.ref D))) (hd : DkAt H D gs) (sd : Std gs)
    (k : ∀ (R : Addr) (H' : Hp), H R = none → Same H H' → H' R = some (.lst ((places gs).map V.int)) → ∃ W : Nat → Nat → St → Hp → Prop, (∃ m, W 0 m σ H') ∧ ∀ i m σ H, W i m σ H →
      ((Ite K R).stop i H ∧ De.nx σ H) ∨ ((Ite K R).go i H ∧ ∃ N : St → Hp → Prop, (∀ σ' H', N σ' H' → ∃ m', m' < m ∧ W (i + 1) m' σ' H') ∧ ∀ x H', (Ite K R).yld i H x H' → g x σ H' fun σ2 H2 => tb { De with nx := N, ct := N, bk := De.nx } σ2 H2)) :
    tFor (iEnum K (tCons (tCB (rSortD K) (tCons (tVar i) tNil)) tNil)) g tb De σ H := by
  refine ⟨_, hv, ?_⟩
  have := sortS (K := K) (Q := fun x H1 => ∃ a, [x] = [V.ref a] ∧ (∃ xs, SqL K H1 a xs) ∧ ∃ W : Nat → Nat → St → Hp → Prop, (∃ m, W 0 m σ H1) ∧ ∀ i m σ H, W i m σ H →
      ((Ite K a).stop i H ∧ De.nx σ H) ∨ ((Ite K a).go i H ∧ ∃ N : St → Hp → Prop, (∀ σ' H', N σ' H' → ∃ m', m' < m ∧ W (i + 1) m' σ' H') ∧ ∀ x H', (Ite K a).yld i H x H' → g x σ H' fun σ2 H2 => tb { De with nx := N, ct := N, bk := De.nx } σ2 H2)) hd sd fun R H' n s e => ⟨R, rfl, ⟨_, SqL.of e⟩, k R H' n s e⟩
  exact this
end TG
namespace TG
open PySem L2
end TG
namespace TG
open PySem L2
theorem steep_over {t t' : Thr} {x y : G} (ot : OkT t) (ot' : OkT t') (lt : x.p < y.p) (tx : t.gap x.p x.f = 0) (ty : t.gap y.p y.h = 0) (px : t'.pas x) (py : t'.pas y) : t'.c * t.d ≤ t.c * t'.d := by
  have b0 := ot'.b0
  have d0 := ot'.d0
  have m := steep_most ot (Int.mul_pos b0 d0) lt tx ty (pas_line.mp px) (pas_line.mp py)
  refine Int.le_of_mul_le_mul_left (a := t'.b) ?_ b0
  calc t'.b * (t'.c * t.d) = t'.c * t'.b * t.d := by grind
    _ ≤ t.c * (t'.b * t'.d) := m
    _ = t'.b * (t.c * t'.d) := by grind
theorem throw_nobar {t : Thr} {gs : List G} (ot : OkT t) (all : ∀ g ∈ gs, t.pas g) {u : List Int} (hf : FirstT gs u) : u = [] :=
  hf.line (Int.mul_pos ot.b0 ot.d0) fun g hg => pas_line.mp (all g hg)
end TG
namespace TG
open PySem PySem.W L2
section
variable {K : Frag} {mg : Str → Option Value} {h : Heap}
theorem seeD_D {x : Str} {st : Stmt} {ps : List Str} (X : K.In h) (G : h.Ns mainGlobals mg) (e : seeD K x = asks x x st [])
    (b : ∀ (kV doc pm : Value) (an : Option Addr) (cdv ct : Value) (us : List Value), us.length = ps.length → bindArgs (fnOf x x (defArgs st) (defBody st) (defScope st) .none kV doc pm an cdv ct) ⟨us, []⟩ = pure (ps.zip us)) : ∃ f fd, D K mg x st ps f fd := by
  obtain ⟨f, oc, od, sl, kV, dc, pm, an, cd, ct, a, l, c, k⟩ := seeD_of e
  exact ⟨f, _, fun_mk l c k, mg_of X G a, (fun_mk l c k).binds b⟩
theorem seeM_D {C : Addr} {c x qual : Str} {st : Stmt} {ps : List Str} (hc : nsIn K mainGlobals c = some (some (.ref C))) (e : seeM K c x qual = asks x qual st [])
    (b : ∀ (kV doc pm : Value) (an : Option Addr) (cdv ct : Value) (us : List Value), us.length = ps.length → bindArgs (fnOf x qual (defArgs st) (defBody st) (defScope st) .none kV doc pm an cdv ct) ⟨us, []⟩ = pure (ps.zip us)) : ∃ f fd, DM K C x qual st ps f fd := by
  obtain ⟨f, oc, od, sl, kV, dc, pm, an, cd, ct, a, i, l, c, k⟩ := seeM_of hc e
  exact ⟨f, _, fun_mk l c k, ⟨a, i, k⟩, (fun_mk l c k).binds b⟩
theorem seeM1_D {C : Addr} {c x qual : Str} {st : Stmt} {ps : List Str} {j : Int} (hc : nsIn K mainGlobals c = some (some (.ref C))) (e : seeM K c x qual = asks x qual st [j])
    (b : ∀ (s : Shared) (d : Addr) (kV doc pm : Value) (an : Option Addr) (cdv ct : Value) (cl : Value) (di : Option Addr) (n : Nat) (sl : Array (Option Value)) (tk : Tok) (us : List Value), s.heap.get? d = some ⟨cl, di, .seq #[.int j tk] n, sl⟩ → us.length = ps.length → BindsTo s (fnOf x qual (defArgs st) (defBody st) (defScope st) (.ref d) kV doc pm an cdv ct) ⟨us, []⟩ (ps.zip us))
    (bd : ∀ (s : Shared) (d : Addr) (kV doc pm : Value) (an : Option Addr) (cdv ct : Value) (cl : Value) (di : Option Addr) (n : Nat) (sl : Array (Option Value)) (tk : Tok) (us : List Value), s.heap.get? d = some ⟨cl, di, .seq #[.int j tk] n, sl⟩ → us.length + 1 = ps.length → BindsTo s (fnOf x qual (defArgs st) (defBody st) (defScope st) (.ref d) kV doc pm an cdv ct) ⟨us, []⟩ (ps.zip (us ++ [.int j tk]))) : ∃ f fd, DMD K C x qual st ps f fd [.int j] := by
  obtain ⟨f, oc, od, sl, d, kV, dc, pm, an, cd, ct, dcl, ddi, dn, dsl, tk, a, i, l, c, k, lt⟩ := seeM1_of hc e
  refine ⟨f, _, ⟨⟨_, _, _, _, _, _, _, _, _, _, rfl, l, c⟩, k⟩, ⟨a, i, k⟩, fun s us hK hl => ?_, ⟨[.int j tk], .cons ⟨_, rfl⟩ .nil, fun s us hK hl => ?_⟩⟩
  · rw [List.append_nil] at hl ⊢
    exact b s d kV dc pm an cd ct dcl ddi dn dsl tk us (hK _ _ lt) hl
  · exact bd s d kV dc pm an cd ct dcl ddi dn dsl tk us (hK _ _ lt) (by simpa using hl)
end
end TG
namespace TG
open PySem L2
end TG
set_option Elab.async false
set_option linter.all false
set_option maxRecDepth 100000
set_option maxHeartbeats 4000000
namespace TG
open PySem L2
abbrev GT : Type := Str → Str → Str → Str → Str → Str → Str → Str → Str → Str → Str → Str → Str → Str → Str → Str → Str → Str → Str → Str → Str → Str → Str → Str → Str → Str → Str → Str → Str → Str → Str → Str → Str → Str → Str → Str → Str → Str → Str → Str → Str → Str → Str → Str → Str → Str → Str → Str → Str → Str → Str → Str → Str → Str → Str → Str → Str → Str → Str → Str → Str → Str → Str → Str → Str → Str → Str → Str → Str → Str → Str → Str → Str → Str → Str → Str → Str → Str → Str → Str → Str → Str → Str → Str → Str → Str → Str → Str → Str → Str → Str → Str → Str → Str → Str → Str → Str → Str → Str → Str → Str → Str → Str → Str → Str → Str → Str → Str → Str → Str → Str → Str → Str → Str → Str → Str → Str → Str → Str → Str → Str → Str → Str → Str → Str → Str → Str → Str → Str → Str → Str → Str → Str → Str → Str → Str → Str → Str → Str → Str → Str → Str → Str → Str → Str → Str → Str → Str → Str → Str → Str → Str → Str → Str → Str → Str → Str → Str → Str → Str → Str → Str → Str → Str → Str → Str → Str → Str → Str → Str → Str → Str → Str → Str → Str → Str → Str → Str → Str → Str → Str → Str → Str → Str → Str → Str → Str → Str → Str → Str → Str → Str → Str → Str → Str → Str → Str → Str → Str → Str → Str → Str → Str → Str → Str → Str → Str → Str → Str → Str → Str → Str → Str → Str → Str → Str → Str → Str → Str → Str → Str → Str → Str → Str → Str → Str → Str → Str → Str → Str → Str → Str → Str → Str → Str → Str → Str → Str → Str → Str → Str → Str → Str → Str → Str → Program
def EqA (p : Program) (G : GT) : Prop := p = G (.ofString "_law_three") (.ofString "_law_found") (.ofString "_law_row") (.ofString "_law_due") (.ofString "_law_first") (.ofString "len") (.ofString "_law_numbers") (.ofString "_law_barred") (.ofString "isinstance") (.ofString "tuple") (.ofString "str") (.ofString "bar") (.ofString "_law_edge") (.ofString "_law_ends") (.ofString "throw") (.ofString "_law_throw") (.ofString "_law_all") (.ofString "_law_whole") (.ofString "_law_touched") (.ofString "_law_gate") (.ofString "_law_gap") (.ofString "_law_both") (.ofString "_law_beach") (.ofString "_law_stands") (.ofString "_law_places") (.ofString "_law_gates_at") (.ofString "_law_high") (.ofString "steepest") (.ofString "list") (.ofString "_law_low") (.ofString "flattest") (.ofString "law") (.ofString "_law_script") (.ofString "Beach") (.ofString "_law_past") (.ofString "_law_laid") (.ofString "_law_k") (.ofString "range") (.ofString "_law_step") (.ofString "_law_deed") (.ofString "_law_picked") (.ofString "sorted") (.ofString "gates") (.ofString ".0") (.ofString "fast") (.ofString "_law_by") (.ofString "_law_throw_here") (.ofString "_law_bars") (.ofString "_law_one") (.ofString "_law_two") (.ofString "_law_three_here") (.ofString "_law_wide") (.ofString "_law_heads") (.ofString "_law_feet") (.ofString "_law_i") (.ofString "_law_j") (.ofString "_law_most") (.ofString "_law_mixed") (.ofString "_law_spread") (.ofString "int") (.ofString "_law_chosen") (.ofString "_law_place") (.ofString "enumerate") (.ofString "_law_gcd") (.ofString "abs") (.ofString "_law_height") (.ofString "_law_line") (.ofString "_law_how") (.ofString "_law_cell") (.ofString "_law_at") (.ofString "_law_how_here") (.ofString "_law_many") (.ofString "_law_foot") (.ofString "_law_head") (.ofString "_law_gates") (.ofString "put") (.ofString "_law_count") (.ofString "lift") (.ofString "_law_menu") (.ofString "_law_draw") (.ofString "_law_word") (.ofString "sink") (.ofString "take") (.ofString "back") (.ofString "_law_pool") (.ofString "_law_kind") (.ofString "_law_any_two") (.ofString "_law_would") (.ofString "_law_deed_here") (.ofString "get") (.ofString "_law_refusal") (.ofString "out of bounds") (.ofString "") (.ofString "nothing back") (.ofString "taken") (.ofString "no gate") (.ofString "upside down") (.ofString "max") (.ofString "beach full") (.ofString "deeds full") (.ofString "_law_done") (.ofString "_law_told") (.ofString "NoGate") (.ofString "Taken") (.ofString "UpsideDown") (.ofString "OutOfBounds") (.ofString "BeachFull") (.ofString "DeedsFull") (.ofString "NothingBack") (.ofString "_law_kept") (.ofString "_law_kept_here") (.ofString "clear") (.ofString "update") (.ofString "pop") (.ofString "append") (.ofString "dict") (.ofString "_law_good") (.ofString "_law_heights") (.ofString "_law_under") (.ofString "_law_over") (.ofString "_law_at_here") (.ofString "_law_lows") (.ofString "_law_highs") (.ofString "_law_span") (.ofString "_law_near") (.ofString "_law_made") (.ofString "_law_used") (.ofString "_law_step_here") (.ofString "min") (.ofString "bool") (.ofString "check_places") (.ofString "places") (.ofString "BadList") (.ofString "the list has no place") (.ofString "MOST_GATES") (.ofString "the list has too many places") (.ofString "set") (.ofString "the list has a place twice") (.ofString "__init__") (.ofString "self") (.ofString "standing") (.ofString "past") (.ofString "has_gate") (.ofString "place") (.ofString "gate") (.ofString "gate_at") (.ofString "no gate stands at this place") (.ofString "do_deed") (.ofString "instead") (.ofString "MOST_DEEDS") (.ofString "no more deeds may stand") (.ofString "others") (.ofString "foot") (.ofString "head") (.ofString "a gate stands at this place already") (.ofString "check_gate") (.ofString "no more gates may stand") (.ofString "foot_by") (.ofString "head_by") (.ofString "before") (.ofString "many") (.ofString "one deed is the least that is taken back") (.ofString "fewer deeds stand") (.ofString "left") (.ofString "deeds") (.ofString "gates_at") (.ofString "two_gates_at") (.ofString "TooFew") (.ofString "one gate alone has no steepest and no flattest throw") (.ofString "through") (.ofString "_wall") (.ofString "steepest_throw") (.ofString "flattest_throw") (.ofString "runs") (.ofString "most") (.ofString "passed") (.ofString "__name__") (.ofString "law_throwgate_k39_whole_steepest_flattest") (.ofString "_law_left") (.ofString "_law_once") (.ofString "turned_throw") (.ofString "found") (.ofString "steepest_found") (.ofString "turned_over") (.ofString "bar_told") (.ofString "throwgate.beach") (.ofString "the foot would be above the head") (.ofString "number") (.ofString "LEAST") (.ofString "GREATEST") (.ofString "a place, foot or head would be out of bounds") (.ofString "tightest_pair") (.ofString "ordered") (.ofString "pair") (.ofString "index") (.ofString "earlier") (.ofString "later") (.ofString "compare") (.ofString "foot_to_head") (.ofString "foot_place") (.ofString "head_place") (.ofString "line_by") (.ofString "passes_all") (.ofString "first_three") (.ofString "passes") (.ofString "height") (.ofString "height_at") (.ofString "throwgate.lists") (.ofString "all") (.ofString "lowest") (.ofString "top") (.ofString "bottom") (.ofString "divisor") (.ofString "greatest_divisor") (.ofString "one") (.ofString "two") (.ofString "right") (.ofString "throwgate.lines") (.ofString "height_top") (.ofString "height_bottom") (.ofString "rise_top") (.ofString "rise_bottom") (.ofString "other") (.ofString "second") (.ofString "steps") (.ofString "gain") (.ofString "start") (.ofString "rise") (.ofString "barring") (.ofString "three") (.ofString "side_of_line") (.ofString "count") (.ofString "first") (.ofString "middle") (.ofString "last") (.ofString "throwgate.fracs") (.ofString "rest") (.ofString "next_rest") (.ofString "BeachError") (.ofString "throwgate.bars") (.ofString "end") (.ofString "throwgate.errors") (.ofString "ValueError") (.ofString "k") (.ofString "/claim/cut.py")
noncomputable def Gp : GT := by
  refine' (?m : _ → GT) (?h : EqA PySem.Challenge.pw_throwgate_k39_whole_steepest_flattest ?G)
  case h =>
    delta EqA PySem.Challenge.pw_throwgate_k39_whole_steepest_flattest
    iterate 245 (generalize Str.ofString _ = x)
    exact rfl
  case m => exact fun _ => ?G
theorem Gq : EqA PySem.Challenge.pw_throwgate_k39_whole_steepest_flattest Gp := by delta EqA; kernel_rfl
theorem at_0 : Str.ofString "_law_three" = Str.mk (.mk [95, 108, 97, 119, 95, 116, 104, 114, 101, 101]) := by kernel_rfl
theorem at_1 : Str.ofString "_law_found" = Str.mk (.mk [95, 108, 97, 119, 95, 102, 111, 117, 110, 100]) := by kernel_rfl
theorem at_2 : Str.ofString "_law_row" = Str.mk (.mk [95, 108, 97, 119, 95, 114, 111, 119]) := by kernel_rfl
theorem at_3 : Str.ofString "_law_due" = Str.mk (.mk [95, 108, 97, 119, 95, 100, 117, 101]) := by kernel_rfl
theorem at_4 : Str.ofString "_law_first" = Str.mk (.mk [95, 108, 97, 119, 95, 102, 105, 114, 115, 116]) := by kernel_rfl
theorem at_5 : Str.ofString "len" = Str.mk (.mk [108, 101, 110]) := by kernel_rfl
theorem at_6 : Str.ofString "_law_numbers" = Str.mk (.mk [95, 108, 97, 119, 95, 110, 117, 109, 98, 101, 114, 115]) := by kernel_rfl
theorem at_7 : Str.ofString "_law_barred" = Str.mk (.mk [95, 108, 97, 119, 95, 98, 97, 114, 114, 101, 100]) := by kernel_rfl
theorem at_8 : Str.ofString "isinstance" = Str.mk (.mk [105, 115, 105, 110, 115, 116, 97, 110, 99, 101]) := by kernel_rfl
theorem at_9 : Str.ofString "tuple" = Str.mk (.mk [116, 117, 112, 108, 101]) := by kernel_rfl
theorem at_10 : Str.ofString "str" = Str.mk (.mk [115, 116, 114]) := by kernel_rfl
theorem at_11 : Str.ofString "bar" = Str.mk (.mk [98, 97, 114]) := by kernel_rfl
theorem at_12 : Str.ofString "_law_edge" = Str.mk (.mk [95, 108, 97, 119, 95, 101, 100, 103, 101]) := by kernel_rfl
theorem at_13 : Str.ofString "_law_ends" = Str.mk (.mk [95, 108, 97, 119, 95, 101, 110, 100, 115]) := by kernel_rfl
theorem at_14 : Str.ofString "throw" = Str.mk (.mk [116, 104, 114, 111, 119]) := by kernel_rfl
theorem at_15 : Str.ofString "_law_throw" = Str.mk (.mk [95, 108, 97, 119, 95, 116, 104, 114, 111, 119]) := by kernel_rfl
theorem at_16 : Str.ofString "_law_all" = Str.mk (.mk [95, 108, 97, 119, 95, 97, 108, 108]) := by kernel_rfl
theorem at_17 : Str.ofString "_law_whole" = Str.mk (.mk [95, 108, 97, 119, 95, 119, 104, 111, 108, 101]) := by kernel_rfl
theorem at_18 : Str.ofString "_law_touched" = Str.mk (.mk [95, 108, 97, 119, 95, 116, 111, 117, 99, 104, 101, 100]) := by kernel_rfl
theorem at_19 : Str.ofString "_law_gate" = Str.mk (.mk [95, 108, 97, 119, 95, 103, 97, 116, 101]) := by kernel_rfl
theorem at_20 : Str.ofString "_law_gap" = Str.mk (.mk [95, 108, 97, 119, 95, 103, 97, 112]) := by kernel_rfl
theorem at_21 : Str.ofString "_law_both" = Str.mk (.mk [95, 108, 97, 119, 95, 98, 111, 116, 104]) := by kernel_rfl
theorem at_22 : Str.ofString "_law_beach" = Str.mk (.mk [95, 108, 97, 119, 95, 98, 101, 97, 99, 104]) := by kernel_rfl
theorem at_23 : Str.ofString "_law_stands" = Str.mk (.mk [95, 108, 97, 119, 95, 115, 116, 97, 110, 100, 115]) := by kernel_rfl
theorem at_24 : Str.ofString "_law_places" = Str.mk (.mk [95, 108, 97, 119, 95, 112, 108, 97, 99, 101, 115]) := by kernel_rfl
theorem at_25 : Str.ofString "_law_gates_at" = Str.mk (.mk [95, 108, 97, 119, 95, 103, 97, 116, 101, 115, 95, 97, 116]) := by kernel_rfl
theorem at_26 : Str.ofString "_law_high" = Str.mk (.mk [95, 108, 97, 119, 95, 104, 105, 103, 104]) := by kernel_rfl
theorem at_27 : Str.ofString "steepest" = Str.mk (.mk [115, 116, 101, 101, 112, 101, 115, 116]) := by kernel_rfl
theorem at_28 : Str.ofString "list" = Str.mk (.mk [108, 105, 115, 116]) := by kernel_rfl
theorem at_29 : Str.ofString "_law_low" = Str.mk (.mk [95, 108, 97, 119, 95, 108, 111, 119]) := by kernel_rfl
theorem at_30 : Str.ofString "flattest" = Str.mk (.mk [102, 108, 97, 116, 116, 101, 115, 116]) := by kernel_rfl
theorem at_31 : Str.ofString "law" = Str.mk (.mk [108, 97, 119]) := by kernel_rfl
theorem at_32 : Str.ofString "_law_script" = Str.mk (.mk [95, 108, 97, 119, 95, 115, 99, 114, 105, 112, 116]) := by kernel_rfl
theorem at_33 : Str.ofString "Beach" = Str.mk (.mk [66, 101, 97, 99, 104]) := by kernel_rfl
theorem at_34 : Str.ofString "_law_past" = Str.mk (.mk [95, 108, 97, 119, 95, 112, 97, 115, 116]) := by kernel_rfl
theorem at_35 : Str.ofString "_law_laid" = Str.mk (.mk [95, 108, 97, 119, 95, 108, 97, 105, 100]) := by kernel_rfl
theorem at_36 : Str.ofString "_law_k" = Str.mk (.mk [95, 108, 97, 119, 95, 107]) := by kernel_rfl
theorem at_37 : Str.ofString "range" = Str.mk (.mk [114, 97, 110, 103, 101]) := by kernel_rfl
theorem at_38 : Str.ofString "_law_step" = Str.mk (.mk [95, 108, 97, 119, 95, 115, 116, 101, 112]) := by kernel_rfl
theorem at_39 : Str.ofString "_law_deed" = Str.mk (.mk [95, 108, 97, 119, 95, 100, 101, 101, 100]) := by kernel_rfl
theorem at_40 : Str.ofString "_law_picked" = Str.mk (.mk [95, 108, 97, 119, 95, 112, 105, 99, 107, 101, 100]) := by kernel_rfl
theorem at_41 : Str.ofString "sorted" = Str.mk (.mk [115, 111, 114, 116, 101, 100]) := by kernel_rfl
theorem at_42 : Str.ofString "gates" = Str.mk (.mk [103, 97, 116, 101, 115]) := by kernel_rfl
theorem at_43 : Str.ofString ".0" = Str.mk (.mk [46, 48]) := by kernel_rfl
theorem at_44 : Str.ofString "fast" = Str.mk (.mk [102, 97, 115, 116]) := by kernel_rfl
theorem at_45 : Str.ofString "_law_by" = Str.mk (.mk [95, 108, 97, 119, 95, 98, 121]) := by kernel_rfl
theorem at_46 : Str.ofString "_law_throw_here" = Str.mk (.mk [95, 108, 97, 119, 95, 116, 104, 114, 111, 119, 95, 104, 101, 114, 101]) := by kernel_rfl
theorem at_47 : Str.ofString "_law_bars" = Str.mk (.mk [95, 108, 97, 119, 95, 98, 97, 114, 115]) := by kernel_rfl
theorem at_48 : Str.ofString "_law_one" = Str.mk (.mk [95, 108, 97, 119, 95, 111, 110, 101]) := by kernel_rfl
theorem at_49 : Str.ofString "_law_two" = Str.mk (.mk [95, 108, 97, 119, 95, 116, 119, 111]) := by kernel_rfl
theorem at_50 : Str.ofString "_law_three_here" = Str.mk (.mk [95, 108, 97, 119, 95, 116, 104, 114, 101, 101, 95, 104, 101, 114, 101]) := by kernel_rfl
theorem at_51 : Str.ofString "_law_wide" = Str.mk (.mk [95, 108, 97, 119, 95, 119, 105, 100, 101]) := by kernel_rfl
theorem at_52 : Str.ofString "_law_heads" = Str.mk (.mk [95, 108, 97, 119, 95, 104, 101, 97, 100, 115]) := by kernel_rfl
theorem at_53 : Str.ofString "_law_feet" = Str.mk (.mk [95, 108, 97, 119, 95, 102, 101, 101, 116]) := by kernel_rfl
theorem at_54 : Str.ofString "_law_i" = Str.mk (.mk [95, 108, 97, 119, 95, 105]) := by kernel_rfl
theorem at_55 : Str.ofString "_law_j" = Str.mk (.mk [95, 108, 97, 119, 95, 106]) := by kernel_rfl
theorem at_56 : Str.ofString "_law_most" = Str.mk (.mk [95, 108, 97, 119, 95, 109, 111, 115, 116]) := by kernel_rfl
theorem at_57 : Str.ofString "_law_mixed" = Str.mk (.mk [95, 108, 97, 119, 95, 109, 105, 120, 101, 100]) := by kernel_rfl
theorem at_58 : Str.ofString "_law_spread" = Str.mk (.mk [95, 108, 97, 119, 95, 115, 112, 114, 101, 97, 100]) := by kernel_rfl
theorem at_59 : Str.ofString "int" = Str.mk (.mk [105, 110, 116]) := by kernel_rfl
theorem at_60 : Str.ofString "_law_chosen" = Str.mk (.mk [95, 108, 97, 119, 95, 99, 104, 111, 115, 101, 110]) := by kernel_rfl
theorem at_61 : Str.ofString "_law_place" = Str.mk (.mk [95, 108, 97, 119, 95, 112, 108, 97, 99, 101]) := by kernel_rfl
theorem at_62 : Str.ofString "enumerate" = Str.mk (.mk [101, 110, 117, 109, 101, 114, 97, 116, 101]) := by kernel_rfl
theorem at_63 : Str.ofString "_law_gcd" = Str.mk (.mk [95, 108, 97, 119, 95, 103, 99, 100]) := by kernel_rfl
theorem at_64 : Str.ofString "abs" = Str.mk (.mk [97, 98, 115]) := by kernel_rfl
theorem at_65 : Str.ofString "_law_height" = Str.mk (.mk [95, 108, 97, 119, 95, 104, 101, 105, 103, 104, 116]) := by kernel_rfl
theorem at_66 : Str.ofString "_law_line" = Str.mk (.mk [95, 108, 97, 119, 95, 108, 105, 110, 101]) := by kernel_rfl
theorem at_67 : Str.ofString "_law_how" = Str.mk (.mk [95, 108, 97, 119, 95, 104, 111, 119]) := by kernel_rfl
theorem at_68 : Str.ofString "_law_cell" = Str.mk (.mk [95, 108, 97, 119, 95, 99, 101, 108, 108]) := by kernel_rfl
theorem at_69 : Str.ofString "_law_at" = Str.mk (.mk [95, 108, 97, 119, 95, 97, 116]) := by kernel_rfl
theorem at_70 : Str.ofString "_law_how_here" = Str.mk (.mk [95, 108, 97, 119, 95, 104, 111, 119, 95, 104, 101, 114, 101]) := by kernel_rfl
theorem at_71 : Str.ofString "_law_many" = Str.mk (.mk [95, 108, 97, 119, 95, 109, 97, 110, 121]) := by kernel_rfl
theorem at_72 : Str.ofString "_law_foot" = Str.mk (.mk [95, 108, 97, 119, 95, 102, 111, 111, 116]) := by kernel_rfl
theorem at_73 : Str.ofString "_law_head" = Str.mk (.mk [95, 108, 97, 119, 95, 104, 101, 97, 100]) := by kernel_rfl
theorem at_74 : Str.ofString "_law_gates" = Str.mk (.mk [95, 108, 97, 119, 95, 103, 97, 116, 101, 115]) := by kernel_rfl
theorem at_75 : Str.ofString "put" = Str.mk (.mk [112, 117, 116]) := by kernel_rfl
theorem at_76 : Str.ofString "_law_count" = Str.mk (.mk [95, 108, 97, 119, 95, 99, 111, 117, 110, 116]) := by kernel_rfl
theorem at_77 : Str.ofString "lift" = Str.mk (.mk [108, 105, 102, 116]) := by kernel_rfl
theorem at_78 : Str.ofString "_law_menu" = Str.mk (.mk [95, 108, 97, 119, 95, 109, 101, 110, 117]) := by kernel_rfl
theorem at_79 : Str.ofString "_law_draw" = Str.mk (.mk [95, 108, 97, 119, 95, 100, 114, 97, 119]) := by kernel_rfl
theorem at_80 : Str.ofString "_law_word" = Str.mk (.mk [95, 108, 97, 119, 95, 119, 111, 114, 100]) := by kernel_rfl
theorem at_81 : Str.ofString "sink" = Str.mk (.mk [115, 105, 110, 107]) := by kernel_rfl
theorem at_82 : Str.ofString "take" = Str.mk (.mk [116, 97, 107, 101]) := by kernel_rfl
theorem at_83 : Str.ofString "back" = Str.mk (.mk [98, 97, 99, 107]) := by kernel_rfl
theorem at_84 : Str.ofString "_law_pool" = Str.mk (.mk [95, 108, 97, 119, 95, 112, 111, 111, 108]) := by kernel_rfl
theorem at_85 : Str.ofString "_law_kind" = Str.mk (.mk [95, 108, 97, 119, 95, 107, 105, 110, 100]) := by kernel_rfl
theorem at_86 : Str.ofString "_law_any_two" = Str.mk (.mk [95, 108, 97, 119, 95, 97, 110, 121, 95, 116, 119, 111]) := by kernel_rfl
theorem at_87 : Str.ofString "_law_would" = Str.mk (.mk [95, 108, 97, 119, 95, 119, 111, 117, 108, 100]) := by kernel_rfl
theorem at_88 : Str.ofString "_law_deed_here" = Str.mk (.mk [95, 108, 97, 119, 95, 100, 101, 101, 100, 95, 104, 101, 114, 101]) := by kernel_rfl
theorem at_89 : Str.ofString "get" = Str.mk (.mk [103, 101, 116]) := by kernel_rfl
theorem at_90 : Str.ofString "_law_refusal" = Str.mk (.mk [95, 108, 97, 119, 95, 114, 101, 102, 117, 115, 97, 108]) := by kernel_rfl
theorem at_91 : Str.ofString "out of bounds" = Str.mk (.mk [111, 117, 116, 32, 111, 102, 32, 98, 111, 117, 110, 100, 115]) := by kernel_rfl
theorem at_92 : Str.ofString "" = Str.mk (.mk []) := by kernel_rfl
theorem at_93 : Str.ofString "nothing back" = Str.mk (.mk [110, 111, 116, 104, 105, 110, 103, 32, 98, 97, 99, 107]) := by kernel_rfl
theorem at_94 : Str.ofString "taken" = Str.mk (.mk [116, 97, 107, 101, 110]) := by kernel_rfl
theorem at_95 : Str.ofString "no gate" = Str.mk (.mk [110, 111, 32, 103, 97, 116, 101]) := by kernel_rfl
theorem at_96 : Str.ofString "upside down" = Str.mk (.mk [117, 112, 115, 105, 100, 101, 32, 100, 111, 119, 110]) := by kernel_rfl
theorem at_97 : Str.ofString "max" = Str.mk (.mk [109, 97, 120]) := by kernel_rfl
theorem at_98 : Str.ofString "beach full" = Str.mk (.mk [98, 101, 97, 99, 104, 32, 102, 117, 108, 108]) := by kernel_rfl
theorem at_99 : Str.ofString "deeds full" = Str.mk (.mk [100, 101, 101, 100, 115, 32, 102, 117, 108, 108]) := by kernel_rfl
theorem at_100 : Str.ofString "_law_done" = Str.mk (.mk [95, 108, 97, 119, 95, 100, 111, 110, 101]) := by kernel_rfl
theorem at_101 : Str.ofString "_law_told" = Str.mk (.mk [95, 108, 97, 119, 95, 116, 111, 108, 100]) := by kernel_rfl
theorem at_102 : Str.ofString "NoGate" = Str.mk (.mk [78, 111, 71, 97, 116, 101]) := by kernel_rfl
theorem at_103 : Str.ofString "Taken" = Str.mk (.mk [84, 97, 107, 101, 110]) := by kernel_rfl
theorem at_104 : Str.ofString "UpsideDown" = Str.mk (.mk [85, 112, 115, 105, 100, 101, 68, 111, 119, 110]) := by kernel_rfl
theorem at_105 : Str.ofString "OutOfBounds" = Str.mk (.mk [79, 117, 116, 79, 102, 66, 111, 117, 110, 100, 115]) := by kernel_rfl
theorem at_106 : Str.ofString "BeachFull" = Str.mk (.mk [66, 101, 97, 99, 104, 70, 117, 108, 108]) := by kernel_rfl
theorem at_107 : Str.ofString "DeedsFull" = Str.mk (.mk [68, 101, 101, 100, 115, 70, 117, 108, 108]) := by kernel_rfl
theorem at_108 : Str.ofString "NothingBack" = Str.mk (.mk [78, 111, 116, 104, 105, 110, 103, 66, 97, 99, 107]) := by kernel_rfl
theorem at_109 : Str.ofString "_law_kept" = Str.mk (.mk [95, 108, 97, 119, 95, 107, 101, 112, 116]) := by kernel_rfl
theorem at_110 : Str.ofString "_law_kept_here" = Str.mk (.mk [95, 108, 97, 119, 95, 107, 101, 112, 116, 95, 104, 101, 114, 101]) := by kernel_rfl
theorem at_111 : Str.ofString "clear" = Str.mk (.mk [99, 108, 101, 97, 114]) := by kernel_rfl
theorem at_112 : Str.ofString "update" = Str.mk (.mk [117, 112, 100, 97, 116, 101]) := by kernel_rfl
theorem at_113 : Str.ofString "pop" = Str.mk (.mk [112, 111, 112]) := by kernel_rfl
theorem at_114 : Str.ofString "append" = Str.mk (.mk [97, 112, 112, 101, 110, 100]) := by kernel_rfl
theorem at_115 : Str.ofString "dict" = Str.mk (.mk [100, 105, 99, 116]) := by kernel_rfl
theorem at_116 : Str.ofString "_law_good" = Str.mk (.mk [95, 108, 97, 119, 95, 103, 111, 111, 100]) := by kernel_rfl
theorem at_117 : Str.ofString "_law_heights" = Str.mk (.mk [95, 108, 97, 119, 95, 104, 101, 105, 103, 104, 116, 115]) := by kernel_rfl
theorem at_118 : Str.ofString "_law_under" = Str.mk (.mk [95, 108, 97, 119, 95, 117, 110, 100, 101, 114]) := by kernel_rfl
theorem at_119 : Str.ofString "_law_over" = Str.mk (.mk [95, 108, 97, 119, 95, 111, 118, 101, 114]) := by kernel_rfl
theorem at_120 : Str.ofString "_law_at_here" = Str.mk (.mk [95, 108, 97, 119, 95, 97, 116, 95, 104, 101, 114, 101]) := by kernel_rfl
theorem at_121 : Str.ofString "_law_lows" = Str.mk (.mk [95, 108, 97, 119, 95, 108, 111, 119, 115]) := by kernel_rfl
theorem at_122 : Str.ofString "_law_highs" = Str.mk (.mk [95, 108, 97, 119, 95, 104, 105, 103, 104, 115]) := by kernel_rfl
theorem at_123 : Str.ofString "_law_span" = Str.mk (.mk [95, 108, 97, 119, 95, 115, 112, 97, 110]) := by kernel_rfl
theorem at_124 : Str.ofString "_law_near" = Str.mk (.mk [95, 108, 97, 119, 95, 110, 101, 97, 114]) := by kernel_rfl
theorem at_125 : Str.ofString "_law_made" = Str.mk (.mk [95, 108, 97, 119, 95, 109, 97, 100, 101]) := by kernel_rfl
theorem at_126 : Str.ofString "_law_used" = Str.mk (.mk [95, 108, 97, 119, 95, 117, 115, 101, 100]) := by kernel_rfl
theorem at_127 : Str.ofString "_law_step_here" = Str.mk (.mk [95, 108, 97, 119, 95, 115, 116, 101, 112, 95, 104, 101, 114, 101]) := by kernel_rfl
theorem at_128 : Str.ofString "min" = Str.mk (.mk [109, 105, 110]) := by kernel_rfl
theorem at_129 : Str.ofString "bool" = Str.mk (.mk [98, 111, 111, 108]) := by kernel_rfl
theorem at_130 : Str.ofString "check_places" = Str.mk (.mk [99, 104, 101, 99, 107, 95, 112, 108, 97, 99, 101, 115]) := by kernel_rfl
theorem at_131 : Str.ofString "places" = Str.mk (.mk [112, 108, 97, 99, 101, 115]) := by kernel_rfl
theorem at_132 : Str.ofString "BadList" = Str.mk (.mk [66, 97, 100, 76, 105, 115, 116]) := by kernel_rfl
theorem at_133 : Str.ofString "the list has no place" = Str.mk (.mk [116, 104, 101, 32, 108, 105, 115, 116, 32, 104, 97, 115, 32, 110, 111, 32, 112, 108, 97, 99, 101]) := by kernel_rfl
theorem at_134 : Str.ofString "MOST_GATES" = Str.mk (.mk [77, 79, 83, 84, 95, 71, 65, 84, 69, 83]) := by kernel_rfl
theorem at_135 : Str.ofString "the list has too many places" = Str.mk (.mk [116, 104, 101, 32, 108, 105, 115, 116, 32, 104, 97, 115, 32, 116, 111, 111, 32, 109, 97, 110, 121, 32, 112, 108, 97, 99, 101, 115]) := by kernel_rfl
theorem at_136 : Str.ofString "set" = Str.mk (.mk [115, 101, 116]) := by kernel_rfl
theorem at_137 : Str.ofString "the list has a place twice" = Str.mk (.mk [116, 104, 101, 32, 108, 105, 115, 116, 32, 104, 97, 115, 32, 97, 32, 112, 108, 97, 99, 101, 32, 116, 119, 105, 99, 101]) := by kernel_rfl
theorem at_138 : Str.ofString "__init__" = Str.mk (.mk [95, 95, 105, 110, 105, 116, 95, 95]) := by kernel_rfl
theorem at_139 : Str.ofString "self" = Str.mk (.mk [115, 101, 108, 102]) := by kernel_rfl
theorem at_140 : Str.ofString "standing" = Str.mk (.mk [115, 116, 97, 110, 100, 105, 110, 103]) := by kernel_rfl
theorem at_141 : Str.ofString "past" = Str.mk (.mk [112, 97, 115, 116]) := by kernel_rfl
theorem at_142 : Str.ofString "has_gate" = Str.mk (.mk [104, 97, 115, 95, 103, 97, 116, 101]) := by kernel_rfl
theorem at_143 : Str.ofString "place" = Str.mk (.mk [112, 108, 97, 99, 101]) := by kernel_rfl
theorem at_144 : Str.ofString "gate" = Str.mk (.mk [103, 97, 116, 101]) := by kernel_rfl
theorem at_145 : Str.ofString "gate_at" = Str.mk (.mk [103, 97, 116, 101, 95, 97, 116]) := by kernel_rfl
theorem at_146 : Str.ofString "no gate stands at this place" = Str.mk (.mk [110, 111, 32, 103, 97, 116, 101, 32, 115, 116, 97, 110, 100, 115, 32, 97, 116, 32, 116, 104, 105, 115, 32, 112, 108, 97, 99, 101]) := by kernel_rfl
theorem at_147 : Str.ofString "do_deed" = Str.mk (.mk [100, 111, 95, 100, 101, 101, 100]) := by kernel_rfl
theorem at_148 : Str.ofString "instead" = Str.mk (.mk [105, 110, 115, 116, 101, 97, 100]) := by kernel_rfl
theorem at_149 : Str.ofString "MOST_DEEDS" = Str.mk (.mk [77, 79, 83, 84, 95, 68, 69, 69, 68, 83]) := by kernel_rfl
theorem at_150 : Str.ofString "no more deeds may stand" = Str.mk (.mk [110, 111, 32, 109, 111, 114, 101, 32, 100, 101, 101, 100, 115, 32, 109, 97, 121, 32, 115, 116, 97, 110, 100]) := by kernel_rfl
theorem at_151 : Str.ofString "others" = Str.mk (.mk [111, 116, 104, 101, 114, 115]) := by kernel_rfl
theorem at_152 : Str.ofString "foot" = Str.mk (.mk [102, 111, 111, 116]) := by kernel_rfl
theorem at_153 : Str.ofString "head" = Str.mk (.mk [104, 101, 97, 100]) := by kernel_rfl
theorem at_154 : Str.ofString "a gate stands at this place already" = Str.mk (.mk [97, 32, 103, 97, 116, 101, 32, 115, 116, 97, 110, 100, 115, 32, 97, 116, 32, 116, 104, 105, 115, 32, 112, 108, 97, 99, 101, 32, 97, 108, 114, 101, 97, 100, 121]) := by kernel_rfl
theorem at_155 : Str.ofString "check_gate" = Str.mk (.mk [99, 104, 101, 99, 107, 95, 103, 97, 116, 101]) := by kernel_rfl
theorem at_156 : Str.ofString "no more gates may stand" = Str.mk (.mk [110, 111, 32, 109, 111, 114, 101, 32, 103, 97, 116, 101, 115, 32, 109, 97, 121, 32, 115, 116, 97, 110, 100]) := by kernel_rfl
theorem at_157 : Str.ofString "foot_by" = Str.mk (.mk [102, 111, 111, 116, 95, 98, 121]) := by kernel_rfl
theorem at_158 : Str.ofString "head_by" = Str.mk (.mk [104, 101, 97, 100, 95, 98, 121]) := by kernel_rfl
theorem at_159 : Str.ofString "before" = Str.mk (.mk [98, 101, 102, 111, 114, 101]) := by kernel_rfl
theorem at_160 : Str.ofString "many" = Str.mk (.mk [109, 97, 110, 121]) := by kernel_rfl
theorem at_161 : Str.ofString "one deed is the least that is taken back" = Str.mk (.mk [111, 110, 101, 32, 100, 101, 101, 100, 32, 105, 115, 32, 116, 104, 101, 32, 108, 101, 97, 115, 116, 32, 116, 104, 97, 116, 32, 105, 115, 32, 116, 97, 107, 101, 110, 32, 98, 97, 99, 107]) := by kernel_rfl
theorem at_162 : Str.ofString "fewer deeds stand" = Str.mk (.mk [102, 101, 119, 101, 114, 32, 100, 101, 101, 100, 115, 32, 115, 116, 97, 110, 100]) := by kernel_rfl
theorem at_163 : Str.ofString "left" = Str.mk (.mk [108, 101, 102, 116]) := by kernel_rfl
theorem at_164 : Str.ofString "deeds" = Str.mk (.mk [100, 101, 101, 100, 115]) := by kernel_rfl
theorem at_165 : Str.ofString "gates_at" = Str.mk (.mk [103, 97, 116, 101, 115, 95, 97, 116]) := by kernel_rfl
theorem at_166 : Str.ofString "two_gates_at" = Str.mk (.mk [116, 119, 111, 95, 103, 97, 116, 101, 115, 95, 97, 116]) := by kernel_rfl
theorem at_167 : Str.ofString "TooFew" = Str.mk (.mk [84, 111, 111, 70, 101, 119]) := by kernel_rfl
theorem at_168 : Str.ofString "one gate alone has no steepest and no flattest throw" = Str.mk (.mk [111, 110, 101, 32, 103, 97, 116, 101, 32, 97, 108, 111, 110, 101, 32, 104, 97, 115, 32, 110, 111, 32, 115, 116, 101, 101, 112, 101, 115, 116, 32, 97, 110, 100, 32, 110, 111, 32, 102, 108, 97, 116, 116, 101, 115, 116, 32, 116, 104, 114, 111, 119]) := by kernel_rfl
theorem at_169 : Str.ofString "through" = Str.mk (.mk [116, 104, 114, 111, 117, 103, 104]) := by kernel_rfl
theorem at_170 : Str.ofString "_wall" = Str.mk (.mk [95, 119, 97, 108, 108]) := by kernel_rfl
theorem at_171 : Str.ofString "steepest_throw" = Str.mk (.mk [115, 116, 101, 101, 112, 101, 115, 116, 95, 116, 104, 114, 111, 119]) := by kernel_rfl
theorem at_172 : Str.ofString "flattest_throw" = Str.mk (.mk [102, 108, 97, 116, 116, 101, 115, 116, 95, 116, 104, 114, 111, 119]) := by kernel_rfl
theorem at_173 : Str.ofString "runs" = Str.mk (.mk [114, 117, 110, 115]) := by kernel_rfl
theorem at_174 : Str.ofString "most" = Str.mk (.mk [109, 111, 115, 116]) := by kernel_rfl
theorem at_175 : Str.ofString "passed" = Str.mk (.mk [112, 97, 115, 115, 101, 100]) := by kernel_rfl
theorem at_176 : Str.ofString "__name__" = Str.mk (.mk [95, 95, 110, 97, 109, 101, 95, 95]) := by kernel_rfl
theorem at_177 : Str.ofString "law_throwgate_k39_whole_steepest_flattest" = Str.mk (.mk [108, 97, 119, 95, 116, 104, 114, 111, 119, 103, 97, 116, 101, 95, 107, 51, 57, 95, 119, 104, 111, 108, 101, 95, 115, 116, 101, 101, 112, 101, 115, 116, 95, 102, 108, 97, 116, 116, 101, 115, 116]) := by kernel_rfl
theorem at_178 : Str.ofString "_law_left" = Str.mk (.mk [95, 108, 97, 119, 95, 108, 101, 102, 116]) := by kernel_rfl
theorem at_179 : Str.ofString "_law_once" = Str.mk (.mk [95, 108, 97, 119, 95, 111, 110, 99, 101]) := by kernel_rfl
theorem at_180 : Str.ofString "turned_throw" = Str.mk (.mk [116, 117, 114, 110, 101, 100, 95, 116, 104, 114, 111, 119]) := by kernel_rfl
theorem at_181 : Str.ofString "found" = Str.mk (.mk [102, 111, 117, 110, 100]) := by kernel_rfl
theorem at_182 : Str.ofString "steepest_found" = Str.mk (.mk [115, 116, 101, 101, 112, 101, 115, 116, 95, 102, 111, 117, 110, 100]) := by kernel_rfl
theorem at_183 : Str.ofString "turned_over" = Str.mk (.mk [116, 117, 114, 110, 101, 100, 95, 111, 118, 101, 114]) := by kernel_rfl
theorem at_184 : Str.ofString "bar_told" = Str.mk (.mk [98, 97, 114, 95, 116, 111, 108, 100]) := by kernel_rfl
theorem at_185 : Str.ofString "throwgate.beach" = Str.mk (.mk [116, 104, 114, 111, 119, 103, 97, 116, 101, 46, 98, 101, 97, 99, 104]) := by kernel_rfl
theorem at_186 : Str.ofString "the foot would be above the head" = Str.mk (.mk [116, 104, 101, 32, 102, 111, 111, 116, 32, 119, 111, 117, 108, 100, 32, 98, 101, 32, 97, 98, 111, 118, 101, 32, 116, 104, 101, 32, 104, 101, 97, 100]) := by kernel_rfl
theorem at_187 : Str.ofString "number" = Str.mk (.mk [110, 117, 109, 98, 101, 114]) := by kernel_rfl
theorem at_188 : Str.ofString "LEAST" = Str.mk (.mk [76, 69, 65, 83, 84]) := by kernel_rfl
theorem at_189 : Str.ofString "GREATEST" = Str.mk (.mk [71, 82, 69, 65, 84, 69, 83, 84]) := by kernel_rfl
theorem at_190 : Str.ofString "a place, foot or head would be out of bounds" = Str.mk (.mk [97, 32, 112, 108, 97, 99, 101, 44, 32, 102, 111, 111, 116, 32, 111, 114, 32, 104, 101, 97, 100, 32, 119, 111, 117, 108, 100, 32, 98, 101, 32, 111, 117, 116, 32, 111, 102, 32, 98, 111, 117, 110, 100, 115]) := by kernel_rfl
theorem at_191 : Str.ofString "tightest_pair" = Str.mk (.mk [116, 105, 103, 104, 116, 101, 115, 116, 95, 112, 97, 105, 114]) := by kernel_rfl
theorem at_192 : Str.ofString "ordered" = Str.mk (.mk [111, 114, 100, 101, 114, 101, 100]) := by kernel_rfl
theorem at_193 : Str.ofString "pair" = Str.mk (.mk [112, 97, 105, 114]) := by kernel_rfl
theorem at_194 : Str.ofString "index" = Str.mk (.mk [105, 110, 100, 101, 120]) := by kernel_rfl
theorem at_195 : Str.ofString "earlier" = Str.mk (.mk [101, 97, 114, 108, 105, 101, 114]) := by kernel_rfl
theorem at_196 : Str.ofString "later" = Str.mk (.mk [108, 97, 116, 101, 114]) := by kernel_rfl
theorem at_197 : Str.ofString "compare" = Str.mk (.mk [99, 111, 109, 112, 97, 114, 101]) := by kernel_rfl
theorem at_198 : Str.ofString "foot_to_head" = Str.mk (.mk [102, 111, 111, 116, 95, 116, 111, 95, 104, 101, 97, 100]) := by kernel_rfl
theorem at_199 : Str.ofString "foot_place" = Str.mk (.mk [102, 111, 111, 116, 95, 112, 108, 97, 99, 101]) := by kernel_rfl
theorem at_200 : Str.ofString "head_place" = Str.mk (.mk [104, 101, 97, 100, 95, 112, 108, 97, 99, 101]) := by kernel_rfl
theorem at_201 : Str.ofString "line_by" = Str.mk (.mk [108, 105, 110, 101, 95, 98, 121]) := by kernel_rfl
theorem at_202 : Str.ofString "passes_all" = Str.mk (.mk [112, 97, 115, 115, 101, 115, 95, 97, 108, 108]) := by kernel_rfl
theorem at_203 : Str.ofString "first_three" = Str.mk (.mk [102, 105, 114, 115, 116, 95, 116, 104, 114, 101, 101]) := by kernel_rfl
theorem at_204 : Str.ofString "passes" = Str.mk (.mk [112, 97, 115, 115, 101, 115]) := by kernel_rfl
theorem at_205 : Str.ofString "height" = Str.mk (.mk [104, 101, 105, 103, 104, 116]) := by kernel_rfl
theorem at_206 : Str.ofString "height_at" = Str.mk (.mk [104, 101, 105, 103, 104, 116, 95, 97, 116]) := by kernel_rfl
theorem at_207 : Str.ofString "throwgate.lists" = Str.mk (.mk [116, 104, 114, 111, 119, 103, 97, 116, 101, 46, 108, 105, 115, 116, 115]) := by kernel_rfl
theorem at_208 : Str.ofString "all" = Str.mk (.mk [97, 108, 108]) := by kernel_rfl
theorem at_209 : Str.ofString "lowest" = Str.mk (.mk [108, 111, 119, 101, 115, 116]) := by kernel_rfl
theorem at_210 : Str.ofString "top" = Str.mk (.mk [116, 111, 112]) := by kernel_rfl
theorem at_211 : Str.ofString "bottom" = Str.mk (.mk [98, 111, 116, 116, 111, 109]) := by kernel_rfl
theorem at_212 : Str.ofString "divisor" = Str.mk (.mk [100, 105, 118, 105, 115, 111, 114]) := by kernel_rfl
theorem at_213 : Str.ofString "greatest_divisor" = Str.mk (.mk [103, 114, 101, 97, 116, 101, 115, 116, 95, 100, 105, 118, 105, 115, 111, 114]) := by kernel_rfl
theorem at_214 : Str.ofString "one" = Str.mk (.mk [111, 110, 101]) := by kernel_rfl
theorem at_215 : Str.ofString "two" = Str.mk (.mk [116, 119, 111]) := by kernel_rfl
theorem at_216 : Str.ofString "right" = Str.mk (.mk [114, 105, 103, 104, 116]) := by kernel_rfl
theorem at_217 : Str.ofString "throwgate.lines" = Str.mk (.mk [116, 104, 114, 111, 119, 103, 97, 116, 101, 46, 108, 105, 110, 101, 115]) := by kernel_rfl
theorem at_218 : Str.ofString "height_top" = Str.mk (.mk [104, 101, 105, 103, 104, 116, 95, 116, 111, 112]) := by kernel_rfl
theorem at_219 : Str.ofString "height_bottom" = Str.mk (.mk [104, 101, 105, 103, 104, 116, 95, 98, 111, 116, 116, 111, 109]) := by kernel_rfl
theorem at_220 : Str.ofString "rise_top" = Str.mk (.mk [114, 105, 115, 101, 95, 116, 111, 112]) := by kernel_rfl
theorem at_221 : Str.ofString "rise_bottom" = Str.mk (.mk [114, 105, 115, 101, 95, 98, 111, 116, 116, 111, 109]) := by kernel_rfl
theorem at_222 : Str.ofString "other" = Str.mk (.mk [111, 116, 104, 101, 114]) := by kernel_rfl
theorem at_223 : Str.ofString "second" = Str.mk (.mk [115, 101, 99, 111, 110, 100]) := by kernel_rfl
theorem at_224 : Str.ofString "steps" = Str.mk (.mk [115, 116, 101, 112, 115]) := by kernel_rfl
theorem at_225 : Str.ofString "gain" = Str.mk (.mk [103, 97, 105, 110]) := by kernel_rfl
theorem at_226 : Str.ofString "start" = Str.mk (.mk [115, 116, 97, 114, 116]) := by kernel_rfl
theorem at_227 : Str.ofString "rise" = Str.mk (.mk [114, 105, 115, 101]) := by kernel_rfl
theorem at_228 : Str.ofString "barring" = Str.mk (.mk [98, 97, 114, 114, 105, 110, 103]) := by kernel_rfl
theorem at_229 : Str.ofString "three" = Str.mk (.mk [116, 104, 114, 101, 101]) := by kernel_rfl
theorem at_230 : Str.ofString "side_of_line" = Str.mk (.mk [115, 105, 100, 101, 95, 111, 102, 95, 108, 105, 110, 101]) := by kernel_rfl
theorem at_231 : Str.ofString "count" = Str.mk (.mk [99, 111, 117, 110, 116]) := by kernel_rfl
theorem at_232 : Str.ofString "first" = Str.mk (.mk [102, 105, 114, 115, 116]) := by kernel_rfl
theorem at_233 : Str.ofString "middle" = Str.mk (.mk [109, 105, 100, 100, 108, 101]) := by kernel_rfl
theorem at_234 : Str.ofString "last" = Str.mk (.mk [108, 97, 115, 116]) := by kernel_rfl
theorem at_235 : Str.ofString "throwgate.fracs" = Str.mk (.mk [116, 104, 114, 111, 119, 103, 97, 116, 101, 46, 102, 114, 97, 99, 115]) := by kernel_rfl
theorem at_236 : Str.ofString "rest" = Str.mk (.mk [114, 101, 115, 116]) := by kernel_rfl
theorem at_237 : Str.ofString "next_rest" = Str.mk (.mk [110, 101, 120, 116, 95, 114, 101, 115, 116]) := by kernel_rfl
theorem at_238 : Str.ofString "BeachError" = Str.mk (.mk [66, 101, 97, 99, 104, 69, 114, 114, 111, 114]) := by kernel_rfl
theorem at_239 : Str.ofString "throwgate.bars" = Str.mk (.mk [116, 104, 114, 111, 119, 103, 97, 116, 101, 46, 98, 97, 114, 115]) := by kernel_rfl
theorem at_240 : Str.ofString "end" = Str.mk (.mk [101, 110, 100]) := by kernel_rfl
theorem at_241 : Str.ofString "throwgate.errors" = Str.mk (.mk [116, 104, 114, 111, 119, 103, 97, 116, 101, 46, 101, 114, 114, 111, 114, 115]) := by kernel_rfl
theorem at_242 : Str.ofString "ValueError" = Str.mk (.mk [86, 97, 108, 117, 101, 69, 114, 114, 111, 114]) := by kernel_rfl
theorem at_243 : Str.ofString "k" = Str.mk (.mk [107]) := by kernel_rfl
theorem at_244 : Str.ofString "/claim/cut.py" = Str.mk (.mk [47, 99, 108, 97, 105, 109, 47, 99, 117, 116, 46, 112, 121]) := by kernel_rfl
noncomputable def Tw : PSigma fun t : Program => PySem.Challenge.pw_throwgate_k39_whole_steepest_flattest = t := by
  have h := Gq
  simp only [EqA, at_0, at_1, at_2, at_3, at_4, at_5, at_6, at_7, at_8, at_9, at_10, at_11, at_12, at_13, at_14, at_15, at_16, at_17, at_18, at_19, at_20, at_21, at_22, at_23, at_24, at_25, at_26, at_27, at_28, at_29, at_30, at_31, at_32, at_33, at_34, at_35, at_36, at_37, at_38, at_39, at_40, at_41, at_42, at_43, at_44, at_45, at_46, at_47, at_48, at_49, at_50, at_51, at_52, at_53, at_54, at_55, at_56, at_57, at_58, at_59, at_60, at_61, at_62, at_63, at_64, at_65, at_66, at_67, at_68, at_69, at_70, at_71, at_72, at_73, at_74, at_75, at_76, at_77, at_78, at_79, at_80, at_81, at_82, at_83, at_84, at_85, at_86, at_87, at_88, at_89, at_90, at_91, at_92, at_93, at_94, at_95, at_96, at_97, at_98, at_99, at_100, at_101, at_102, at_103, at_104, at_105, at_106, at_107, at_108, at_109, at_110, at_111, at_112, at_113, at_114, at_115, at_116, at_117, at_118, at_119, at_120, at_121, at_122, at_123, at_124, at_125, at_126, at_127, at_128, at_129, at_130, at_131, at_132, at_133, at_134, at_135, at_136, at_137, at_138, at_139, at_140, at_141, at_142, at_143, at_144, at_145, at_146, at_147, at_148, at_149, at_150, at_151, at_152, at_153, at_154, at_155, at_156, at_157, at_158, at_159, at_160, at_161, at_162, at_163, at_164, at_165, at_166, at_167, at_168, at_169, at_170, at_171, at_172, at_173, at_174, at_175, at_176, at_177, at_178, at_179, at_180, at_181, at_182, at_183, at_184, at_185, at_186, at_187, at_188, at_189, at_190, at_191, at_192, at_193, at_194, at_195, at_196, at_197, at_198, at_199, at_200, at_201, at_202, at_203, at_204, at_205, at_206, at_207, at_208, at_209, at_210, at_211, at_212, at_213, at_214, at_215, at_216, at_217, at_218, at_219, at_220, at_221, at_222, at_223, at_224, at_225, at_226, at_227, at_228, at_229, at_230, at_231, at_232, at_233, at_234, at_235, at_236, at_237, at_238, at_239, at_240, at_241, at_242, at_243, at_244] at h
  exact ⟨_, h⟩
noncomputable def _root_.PySem.W.Fast.tw3553319349803350986 : PySem.Program := TG.Tw.1
theorem _root_.PySem.W.Fast.te3553319349803350986 : PySem.Challenge.pw_throwgate_k39_whole_steepest_flattest = PySem.W.Fast.tw3553319349803350986 := TG.Tw.2
set_option hygiene false
local macro_rules | `(tactic| walk_at "O") => `(tactic| (first | exact Or.inl rfl | exact Or.inr rfl))
local macro_rules | `(tactic| walk_at "NX") => `(tactic| (refine hM _ _ ?_; clear hM; clear M))
local macro_rules | `(tactic| walk_at "Q") => `(tactic| (refine tSeq_gen fun M hM => ?_))
local macro_rules | `(tactic| walk_at "SC") => `(tactic| (exact ⟨rfl, rfl, rfl, by decide +kernel, rfl, by decide +kernel, by decide +kernel⟩))
local macro_rules | `(tactic| walk_at "SQT0") => `(tactic| (first | with_reducible assumption | exact SqT.of (by with_reducible assumption)))
local macro_rules | `(tactic| walk_at "SQL0") => `(tactic| (first | with_reducible assumption | exact SqL.of (by with_reducible assumption)))
local macro_rules | `(tactic| walk_at "SAT0") => `(tactic| (with_reducible assumption))
local macro_rules | `(tactic| walk_at "SAME0") => `(tactic| (first | with_reducible assumption | exact Same.refl _))
local macro_rules | `(tactic| walk_at "SQT1") => `(tactic| (first | with_reducible assumption | exact SqT.of (by with_reducible assumption) | exact Same.tup (by with_reducible assumption) (by walk_at "SQT0")))
local macro_rules | `(tactic| walk_at "SQL1") => `(tactic| (first | with_reducible assumption | exact SqL.of (by with_reducible assumption) | exact Same.seq (by with_reducible assumption) (by walk_at "SQL0")))
local macro_rules | `(tactic| walk_at "SAT1") => `(tactic| (first | with_reducible assumption | exact Same.get (by with_reducible assumption) (by walk_at "SAT0")))
local macro_rules | `(tactic| walk_at "SAME1") => `(tactic| (first | with_reducible assumption | exact Same.refl _ | exact Same.trans (by with_reducible assumption) (by walk_at "SAME0")))
local macro_rules | `(tactic| walk_at "SQT2") => `(tactic| (first | with_reducible assumption | exact SqT.of (by with_reducible assumption) | exact Same.tup (by with_reducible assumption) (by walk_at "SQT1")))
local macro_rules | `(tactic| walk_at "SQL2") => `(tactic| (first | with_reducible assumption | exact SqL.of (by with_reducible assumption) | exact Same.seq (by with_reducible assumption) (by walk_at "SQL1")))
local macro_rules | `(tactic| walk_at "SAT2") => `(tactic| (first | with_reducible assumption | exact Same.get (by with_reducible assumption) (by walk_at "SAT1")))
local macro_rules | `(tactic| walk_at "SAME2") => `(tactic| (first | with_reducible assumption | exact Same.refl _ | exact Same.trans (by with_reducible assumption) (by walk_at "SAME1")))
local macro_rules | `(tactic| walk_at "SQT3") => `(tactic| (first | with_reducible assumption | exact SqT.of (by with_reducible assumption) | exact Same.tup (by with_reducible assumption) (by walk_at "SQT2")))
local macro_rules | `(tactic| walk_at "SQL3") => `(tactic| (first | with_reducible assumption | exact SqL.of (by with_reducible assumption) | exact Same.seq (by with_reducible assumption) (by walk_at "SQL2")))
local macro_rules | `(tactic| walk_at "SAT3") => `(tactic| (first | with_reducible assumption | exact Same.get (by with_reducible assumption) (by walk_at "SAT2")))
local macro_rules | `(tactic| walk_at "SAME3") => `(tactic| (first | with_reducible assumption | exact Same.refl _ | exact Same.trans (by with_reducible assumption) (by walk_at "SAME2")))
local macro_rules | `(tactic| walk_at "SQT4") => `(tactic| (first | with_reducible assumption | exact SqT.of (by with_reducible assumption) | exact Same.tup (by with_reducible assumption) (by walk_at "SQT3")))
local macro_rules | `(tactic| walk_at "SQL4") => `(tactic| (first | with_reducible assumption | exact SqL.of (by with_reducible assumption) | exact Same.seq (by with_reducible assumption) (by walk_at "SQL3")))
local macro_rules | `(tactic| walk_at "SAT4") => `(tactic| (first | with_reducible assumption | exact Same.get (by with_reducible assumption) (by walk_at "SAT3")))
local macro_rules | `(tactic| walk_at "SAME4") => `(tactic| (first | with_reducible assumption | exact Same.refl _ | exact Same.trans (by with_reducible assumption) (by walk_at "SAME3")))
local macro_rules | `(tactic| walk_at "SQT5") => `(tactic| (first | with_reducible assumption | exact SqT.of (by with_reducible assumption) | exact Same.tup (by with_reducible assumption) (by walk_at "SQT4")))
local macro_rules | `(tactic| walk_at "SQL5") => `(tactic| (first | with_reducible assumption | exact SqL.of (by with_reducible assumption) | exact Same.seq (by with_reducible assumption) (by walk_at "SQL4")))
local macro_rules | `(tactic| walk_at "SAT5") => `(tactic| (first | with_reducible assumption | exact Same.get (by with_reducible assumption) (by walk_at "SAT4")))
local macro_rules | `(tactic| walk_at "SAME5") => `(tactic| (first | with_reducible assumption | exact Same.refl _ | exact Same.trans (by with_reducible assumption) (by walk_at "SAME4")))
local macro_rules | `(tactic| walk_at "SQT6") => `(tactic| (first | with_reducible assumption | exact SqT.of (by with_reducible assumption) | exact Same.tup (by with_reducible assumption) (by walk_at "SQT5")))
local macro_rules | `(tactic| walk_at "SQL6") => `(tactic| (first | with_reducible assumption | exact SqL.of (by with_reducible assumption) | exact Same.seq (by with_reducible assumption) (by walk_at "SQL5")))
local macro_rules | `(tactic| walk_at "SAT6") => `(tactic| (first | with_reducible assumption | exact Same.get (by with_reducible assumption) (by walk_at "SAT5")))
local macro_rules | `(tactic| walk_at "SAME6") => `(tactic| (first | with_reducible assumption | exact Same.refl _ | exact Same.trans (by with_reducible assumption) (by walk_at "SAME5")))
local macro_rules | `(tactic| walk_at "SQT7") => `(tactic| (first | with_reducible assumption | exact SqT.of (by with_reducible assumption) | exact Same.tup (by with_reducible assumption) (by walk_at "SQT6")))
local macro_rules | `(tactic| walk_at "SQL7") => `(tactic| (first | with_reducible assumption | exact SqL.of (by with_reducible assumption) | exact Same.seq (by with_reducible assumption) (by walk_at "SQL6")))
local macro_rules | `(tactic| walk_at "SAT7") => `(tactic| (first | with_reducible assumption | exact Same.get (by with_reducible assumption) (by walk_at "SAT6")))
local macro_rules | `(tactic| walk_at "SAME7") => `(tactic| (first | with_reducible assumption | exact Same.refl _ | exact Same.trans (by with_reducible assumption) (by walk_at "SAME6")))
local macro_rules | `(tactic| walk_at "SQT8") => `(tactic| (first | with_reducible assumption | exact SqT.of (by with_reducible assumption) | exact Same.tup (by with_reducible assumption) (by walk_at "SQT7")))
local macro_rules | `(tactic| walk_at "SQL8") => `(tactic| (first | with_reducible assumption | exact SqL.of (by with_reducible assumption) | exact Same.seq (by with_reducible assumption) (by walk_at "SQL7")))
local macro_rules | `(tactic| walk_at "SAT8") => `(tactic| (first | with_reducible assumption | exact Same.get (by with_reducible assumption) (by walk_at "SAT7")))
local macro_rules | `(tactic| walk_at "SAME8") => `(tactic| (first | with_reducible assumption | exact Same.refl _ | exact Same.trans (by with_reducible assumption) (by walk_at "SAME7")))
local macro_rules | `(tactic| walk_at "SQT9") => `(tactic| (first | with_reducible assumption | exact SqT.of (by with_reducible assumption) | exact Same.tup (by with_reducible assumption) (by walk_at "SQT8")))
local macro_rules | `(tactic| walk_at "SQL9") => `(tactic| (first | with_reducible assumption | exact SqL.of (by with_reducible assumption) | exact Same.seq (by with_reducible assumption) (by walk_at "SQL8")))
local macro_rules | `(tactic| walk_at "SAT9") => `(tactic| (first | with_reducible assumption | exact Same.get (by with_reducible assumption) (by walk_at "SAT8")))
local macro_rules | `(tactic| walk_at "SAME9") => `(tactic| (first | with_reducible assumption | exact Same.refl _ | exact Same.trans (by with_reducible assumption) (by walk_at "SAME8")))
local macro_rules | `(tactic| walk_at "RD") => `(tactic| (first | (dsimp only [tSeq, tAsg, tRet, tRetN, tDrop, tIfS, tPar, tPar3, tNext, gName, tCont, tBreak, tRaise, tOp, tUn, tVar, tC, tTest, tCons, tNil, tCall, tCB, tTupS, tLstS, rI, rI0, rU, rEq, rNe, tNot, tAnd, tOr, tAndV, tOrV, tNotV, tB, tIf, rIxL, rIxT, rCatS, rTupleL, rListOf, tDNewS, rEqT, rNeT, rEqL0, rSortT, rSortG, tDIn, tDNotIn, sDPut, gTup, gCons, gNil, gSub, rSetL, tAppend, tComp, iRng1, iRng2, capσ, tYes, tSl, rSlS, tNoPart, tPart, rAll, iEnum, rIn, tFld, tMeth, tDGet, tDGet2, tDPop1, gLst, tMake, sFld, rDictD, rMax3, rSetI, rLenS, rEqLI, L2.start, if_true, if_false, List.map_cons, List.map_nil, List.length_cons, List.length_nil, List.cons_append, List.nil_append, List.replicate, List.set_cons_zero, List.set_cons_succ, List.getElem?_cons_zero, List.getElem?_cons_succ, Nat.reduceAdd, Nat.reduceSub, Int.reduceToNat, Int.reduceNeg, Int.reduceMul, Int.reduceAdd, Int.reduceSub]; (try simp only [tSeq, tAsg, tRet, tRetN, tDrop, tIfS, tPar, tPar3, tNext, gName, tCont, tBreak, tRaise, tOp, tUn, tVar, tC, tTest, tCons, tNil, tCall, tCB, tTupS, tLstS, rI, rI0, rU, rEq, rNe, scal, tNot, tAnd, tOr, tAndV, tOrV, tNotV, tB, tIf, rIxL, rIxT, CPow, CDiv, CMul, rCatS, rTupleL, rListOf, tDNewS, rEqT, rNeT, rEqL0, rSortT, rSortG, tDIn, tDNotIn, sDPut, gTup, gCons, gNil, gSub, rSetL, tAppend, tComp, iRng1, iRng2, capσ, tYes, tSl, rSlS, tNoPart, tPart, rAll, iEnum, rIn, tFld, tMeth, tDGet, tDGet2, tDPop1, gLst, tMake, sFld, rDictD, rMax3, rSetI, rLenS, rEqLI, L2.start, cxK, exists_and_right, and_assoc, Int.reduceLE, Int.reduceLT, Nat.reduceLT, Nat.reducePow, Int.reducePow, nabs10, nabs2, false_and, exists_false, and_false, if_true, if_false, decide_true, decide_false, Bool.false_eq_true, Bool.not_true, Bool.not_false, List.map_cons, List.map_nil, List.length_cons, List.length_nil, List.cons_append, List.nil_append, List.append_nil, List.replicate, List.set_cons_zero, List.set_cons_succ, List.getElem?_cons_zero, List.getElem?_cons_succ, Option.some.injEq, V.int.injEq, V.bl.injEq, V.ref.injEq, V.ty.injEq, V.str.injEq, List.cons.injEq, exists_eq_left', exists_and_left, exists_eq_left, true_and, and_true, true_or, or_true, Nat.reduceAdd, Nat.reduceSub, Int.reduceToNat, Int.reduceNeg, Int.reduceMul, Int.reduceAdd, Int.reduceSub, Bool.not_eq_true, Bool.not_not, forall_const])) | simp only [tSeq, tAsg, tRet, tRetN, tDrop, tIfS, tPar, tPar3, tNext, gName, tCont, tBreak, tRaise, tOp, tUn, tVar, tC, tTest, tCons, tNil, tCall, tCB, tTupS, tLstS, rI, rI0, rU, rEq, rNe, scal, tNot, tAnd, tOr, tAndV, tOrV, tNotV, tB, tIf, rIxL, rIxT, CPow, CDiv, CMul, rCatS, rTupleL, rListOf, tDNewS, rEqT, rNeT, rEqL0, rSortT, rSortG, tDIn, tDNotIn, sDPut, gTup, gCons, gNil, gSub, rSetL, tAppend, tComp, iRng1, iRng2, capσ, tYes, tSl, rSlS, tNoPart, tPart, rAll, iEnum, rIn, tFld, tMeth, tDGet, tDGet2, tDPop1, gLst, tMake, sFld, rDictD, rMax3, rSetI, rLenS, rEqLI, L2.start, cxK, exists_and_right, and_assoc, Int.reduceLE, Int.reduceLT, Nat.reduceLT, Nat.reducePow, Int.reducePow, nabs10, nabs2, false_and, exists_false, and_false, if_true, if_false, decide_true, decide_false, Bool.false_eq_true, Bool.not_true, Bool.not_false, List.map_cons, List.map_nil, List.length_cons, List.length_nil, List.cons_append, List.nil_append, List.append_nil, List.replicate, List.set_cons_zero, List.set_cons_succ, List.getElem?_cons_zero, List.getElem?_cons_succ, Option.some.injEq, V.int.injEq, V.bl.injEq, V.ref.injEq, V.ty.injEq, V.str.injEq, List.cons.injEq, exists_eq_left', exists_and_left, exists_eq_left, true_and, and_true, true_or, or_true, Nat.reduceAdd, Nat.reduceSub, Int.reduceToNat, Int.reduceNeg, Int.reduceMul, Int.reduceAdd, Int.reduceSub, Bool.not_eq_true, Bool.not_not, forall_const]))
local macro_rules | `(tactic| walk_at "RDE") => `(tactic| (first | (dsimp only [tOp, tUn, tVar, tC, tTest, tCons, tNil, tCall, tCB, tTupS, tLstS, rI, rI0, rU, rEq, rNe, tNot, tAnd, tOr, tAndV, tOrV, tNotV, tB, tIf, rIxL, rIxT, rCatS, rTupleL, rListOf, tDNewS, rEqT, rNeT, rEqL0, rSortT, rSortG, tDIn, tDNotIn, sDPut, gTup, gCons, gNil, gSub, rSetL, tAppend, tComp, iRng1, iRng2, capσ, tYes, tSl, rSlS, tNoPart, tPart, rAll, iEnum, rIn, tFld, tMeth, tDGet, tDGet2, tDPop1, gLst, tMake, sFld, rDictD, rMax3, rSetI, rLenS, rEqLI, L2.start, if_true, if_false, List.map_cons, List.map_nil, List.length_cons, List.length_nil, List.cons_append, List.nil_append, List.replicate, List.set_cons_zero, List.set_cons_succ, List.getElem?_cons_zero, List.getElem?_cons_succ, Nat.reduceAdd, Nat.reduceSub, Int.reduceToNat, Int.reduceNeg, Int.reduceMul, Int.reduceAdd, Int.reduceSub]; (try simp only [tOp, tUn, tVar, tC, tTest, tCons, tNil, tCall, tCB, tTupS, tLstS, rI, rI0, rU, rEq, rNe, scal, tNot, tAnd, tOr, tAndV, tOrV, tNotV, tB, tIf, rIxL, rIxT, CPow, CDiv, CMul, rCatS, rTupleL, rListOf, tDNewS, rEqT, rNeT, rEqL0, rSortT, rSortG, tDIn, tDNotIn, sDPut, gTup, gCons, gNil, gSub, rSetL, tAppend, tComp, iRng1, iRng2, capσ, tYes, tSl, rSlS, tNoPart, tPart, rAll, iEnum, rIn, tFld, tMeth, tDGet, tDGet2, tDPop1, gLst, tMake, sFld, rDictD, rMax3, rSetI, rLenS, rEqLI, L2.start, cxK, exists_and_right, and_assoc, Int.reduceLE, Int.reduceLT, Nat.reduceLT, Nat.reducePow, Int.reducePow, nabs10, nabs2, false_and, exists_false, and_false, if_true, if_false, decide_true, decide_false, Bool.false_eq_true, Bool.not_true, Bool.not_false, List.map_cons, List.map_nil, List.length_cons, List.length_nil, List.cons_append, List.nil_append, List.append_nil, List.replicate, List.set_cons_zero, List.set_cons_succ, List.getElem?_cons_zero, List.getElem?_cons_succ, Option.some.injEq, V.int.injEq, V.bl.injEq, V.ref.injEq, V.ty.injEq, V.str.injEq, List.cons.injEq, exists_eq_left', exists_and_left, exists_eq_left, true_and, and_true, true_or, or_true, Nat.reduceAdd, Nat.reduceSub, Int.reduceToNat, Int.reduceNeg, Int.reduceMul, Int.reduceAdd, Int.reduceSub, Bool.not_eq_true, Bool.not_not, forall_const])) | simp only [tOp, tUn, tVar, tC, tTest, tCons, tNil, tCall, tCB, tTupS, tLstS, rI, rI0, rU, rEq, rNe, scal, tNot, tAnd, tOr, tAndV, tOrV, tNotV, tB, tIf, rIxL, rIxT, CPow, CDiv, CMul, rCatS, rTupleL, rListOf, tDNewS, rEqT, rNeT, rEqL0, rSortT, rSortG, tDIn, tDNotIn, sDPut, gTup, gCons, gNil, gSub, rSetL, tAppend, tComp, iRng1, iRng2, capσ, tYes, tSl, rSlS, tNoPart, tPart, rAll, iEnum, rIn, tFld, tMeth, tDGet, tDGet2, tDPop1, gLst, tMake, sFld, rDictD, rMax3, rSetI, rLenS, rEqLI, L2.start, cxK, exists_and_right, and_assoc, Int.reduceLE, Int.reduceLT, Nat.reduceLT, Nat.reducePow, Int.reducePow, nabs10, nabs2, false_and, exists_false, and_false, if_true, if_false, decide_true, decide_false, Bool.false_eq_true, Bool.not_true, Bool.not_false, List.map_cons, List.map_nil, List.length_cons, List.length_nil, List.cons_append, List.nil_append, List.append_nil, List.replicate, List.set_cons_zero, List.set_cons_succ, List.getElem?_cons_zero, List.getElem?_cons_succ, Option.some.injEq, V.int.injEq, V.bl.injEq, V.ref.injEq, V.ty.injEq, V.str.injEq, List.cons.injEq, exists_eq_left', exists_and_left, exists_eq_left, true_and, and_true, true_or, or_true, Nat.reduceAdd, Nat.reduceSub, Int.reduceToNat, Int.reduceNeg, Int.reduceMul, Int.reduceAdd, Int.reduceSub, Bool.not_eq_true, Bool.not_not, forall_const]))
local macro_rules | `(tactic| walk_at "STEP") => `(tactic| ((first | (with_reducible refine ⟨_, rfl, ?_⟩) | (with_reducible apply exAnd; · exact rfl) | (with_reducible apply exAnd; · (walk_at "SQT6")) | (with_reducible apply exAnd; · (walk_at "SQL6")) | (with_reducible apply exAnd; · (walk_at "SAT6")) | (with_reducible apply exAnd; · exact atI_ints (by omega) (by omega)) | (with_reducible apply exOrL; · (walk_at "SQL6")) | (with_reducible apply exOrR; · (walk_at "SQT6")) | (with_reducible apply exAnd; · exact TyOf.tup (by walk_at "SAT6")) | (with_reducible apply exAnd; · exact TyOf.lst (by walk_at "SAT6")) | (with_reducible apply exAnd; · exact TyOf.int _) | (with_reducible apply exAnd; · exact TyOf.str _) | (with_reducible apply And.intro; · (first | exact rfl | decide | with_reducible assumption | omega | exact ⟨_, rfl⟩ | exact ⟨_, (by walk_at "SQL6")⟩ | exact ⟨_, (by walk_at "SQT6")⟩ | exact ⟨_, (by walk_at "SAT6")⟩ | (simp only [List.length_map, List.length_append, List.length_cons, List.length_nil, PySem.sizeLine_eq]; omega) | first | with_reducible assumption | exact Sm.of (n := 10 ^ 120) (by omega) (by decide +kernel))) | (with_reducible intro p H' hn hs he; (have ck := ckSame hs); clear ck) | (with_reducible apply iteNeg; · (first | decide | (simp; done) | (simp; omega))) | (with_reducible apply itePos; · (first | decide | (simp; done) | (simp; omega))))))
local macro_rules | `(tactic| walk_at "AUTO") => `(tactic| (repeat walk_at "STEP"))
local macro_rules | `(tactic| delta $ids*) => do
    let ls ← ids.mapM fun i => `(Lean.Parser.Tactic.simpLemma| $i:ident)
    `(tactic| first | (dsimp only [tSeq, tAsg, tRet, tRetN, tDrop, tIfS, tPar, tPar3, tNext, gName, tCont, tBreak, tRaise, tOp, tUn, tVar, tC, tTest, tCons, tNil, tCall, tCB, tTupS, tLstS, rI, rI0, rU, rEq, rNe, tNot, tAnd, tOr, tAndV, tOrV, tNotV, tB, tIf, rIxL, rIxT, rCatS, rTupleL, rListOf, tDNewS, rEqT, rNeT, rEqL0, rSortT, rSortG, tDIn, tDNotIn, sDPut, gTup, gCons, gNil, gSub, rSetL, tAppend, tComp, iRng1, iRng2, capσ, tYes, tSl, rSlS, tNoPart, tPart, rAll, iEnum, rIn, tFld, tMeth, tDGet, tDGet2, tDPop1, gLst, tMake, sFld, rDictD, rMax3, rSetI, rLenS, rEqLI, L2.start, if_true, if_false, List.map_cons, List.map_nil, List.length_cons, List.length_nil, List.cons_append, List.nil_append, List.replicate, List.set_cons_zero, List.set_cons_succ, List.getElem?_cons_zero, List.getElem?_cons_succ, Nat.reduceAdd, Nat.reduceSub, Int.reduceToNat, Int.reduceNeg, Int.reduceMul, Int.reduceAdd, Int.reduceSub, $ls,*]; (try simp only [tSeq, tAsg, tRet, tRetN, tDrop, tIfS, tPar, tPar3, tNext, gName, tCont, tBreak, tRaise, tOp, tUn, tVar, tC, tTest, tCons, tNil, tCall, tCB, tTupS, tLstS, rI, rI0, rU, rEq, rNe, scal, tNot, tAnd, tOr, tAndV, tOrV, tNotV, tB, tIf, rIxL, rIxT, CPow, CDiv, CMul, rCatS, rTupleL, rListOf, tDNewS, rEqT, rNeT, rEqL0, rSortT, rSortG, tDIn, tDNotIn, sDPut, gTup, gCons, gNil, gSub, rSetL, tAppend, tComp, iRng1, iRng2, capσ, tYes, tSl, rSlS, tNoPart, tPart, rAll, iEnum, rIn, tFld, tMeth, tDGet, tDGet2, tDPop1, gLst, tMake, sFld, rDictD, rMax3, rSetI, rLenS, rEqLI, L2.start, cxK, exists_and_right, and_assoc, Int.reduceLE, Int.reduceLT, Nat.reduceLT, Nat.reducePow, Int.reducePow, nabs10, nabs2, false_and, exists_false, and_false, if_true, if_false, decide_true, decide_false, Bool.false_eq_true, Bool.not_true, Bool.not_false, List.map_cons, List.map_nil, List.length_cons, List.length_nil, List.cons_append, List.nil_append, List.append_nil, List.replicate, List.set_cons_zero, List.set_cons_succ, List.getElem?_cons_zero, List.getElem?_cons_succ, Option.some.injEq, V.int.injEq, V.bl.injEq, V.ref.injEq, V.ty.injEq, V.str.injEq, List.cons.injEq, exists_eq_left', exists_and_left, exists_eq_left, true_and, and_true, true_or, or_true, Nat.reduceAdd, Nat.reduceSub, Int.reduceToNat, Int.reduceNeg, Int.reduceMul, Int.reduceAdd, Int.reduceSub, Bool.not_eq_true, Bool.not_not, forall_const, $ls,*])) | simp only [tSeq, tAsg, tRet, tRetN, tDrop, tIfS, tPar, tPar3, tNext, gName, tCont, tBreak, tRaise, tOp, tUn, tVar, tC, tTest, tCons, tNil, tCall, tCB, tTupS, tLstS, rI, rI0, rU, rEq, rNe, scal, tNot, tAnd, tOr, tAndV, tOrV, tNotV, tB, tIf, rIxL, rIxT, CPow, CDiv, CMul, rCatS, rTupleL, rListOf, tDNewS, rEqT, rNeT, rEqL0, rSortT, rSortG, tDIn, tDNotIn, sDPut, gTup, gCons, gNil, gSub, rSetL, tAppend, tComp, iRng1, iRng2, capσ, tYes, tSl, rSlS, tNoPart, tPart, rAll, iEnum, rIn, tFld, tMeth, tDGet, tDGet2, tDPop1, gLst, tMake, sFld, rDictD, rMax3, rSetI, rLenS, rEqLI, L2.start, cxK, exists_and_right, and_assoc, Int.reduceLE, Int.reduceLT, Nat.reduceLT, Nat.reducePow, Int.reducePow, nabs10, nabs2, false_and, exists_false, and_false, if_true, if_false, decide_true, decide_false, Bool.false_eq_true, Bool.not_true, Bool.not_false, List.map_cons, List.map_nil, List.length_cons, List.length_nil, List.cons_append, List.nil_append, List.append_nil, List.replicate, List.set_cons_zero, List.set_cons_succ, List.getElem?_cons_zero, List.getElem?_cons_succ, Option.some.injEq, V.int.injEq, V.bl.injEq, V.ref.injEq, V.ty.injEq, V.str.injEq, List.cons.injEq, exists_eq_left', exists_and_left, exists_eq_left, true_and, and_true, true_or, or_true, Nat.reduceAdd, Nat.reduceSub, Int.reduceToNat, Int.reduceNeg, Int.reduceMul, Int.reduceAdd, Int.reduceSub, Bool.not_eq_true, Bool.not_not, forall_const, $ls,*])
def top (i : Nat) : Stmt := PySem.Challenge.pw_throwgate_k39_whole_steepest_flattest.main.body.getD i (.Pass ⟨0, 0, 0, 0⟩)
abbrev s_side_of_line : Stmt := top 17
abbrev s_barring : Stmt := top 18
abbrev s_first_three : Stmt := top 19
abbrev s_greatest_divisor : Stmt := top 21
abbrev s_lowest : Stmt := top 22
abbrev s_compare : Stmt := top 23
abbrev s_height_at : Stmt := top 25
abbrev s_line_by : Stmt := top 26
abbrev s_passes : Stmt := top 27
abbrev s_passes_all : Stmt := top 29
abbrev s_foot_to_head : Stmt := top 30
abbrev s_tightest_pair : Stmt := top 31
abbrev s_steepest_found : Stmt := top 32
abbrev s_bar_told : Stmt := top 33
abbrev s_steepest_throw : Stmt := top 34
abbrev s_turned_over : Stmt := top 35
abbrev s_turned_throw : Stmt := top 36
abbrev s_flattest_throw : Stmt := top 37
abbrev s_check_gate : Stmt := top 39
abbrev s_check_places : Stmt := top 40
abbrev s_Beach_init : Stmt := inClass (top 41) 0
abbrev s_Beach_has_gate : Stmt := inClass (top 41) 1
abbrev s_Beach_gate_at : Stmt := inClass (top 41) 2
abbrev s_Beach_do_deed : Stmt := inClass (top 41) 3
abbrev s_Beach_put : Stmt := inClass (top 41) 4
abbrev s_Beach_take : Stmt := inClass (top 41) 5
abbrev s_Beach_lift : Stmt := inClass (top 41) 6
abbrev s_Beach_sink : Stmt := inClass (top 41) 7
abbrev s_Beach_back : Stmt := inClass (top 41) 8
abbrev s_Beach_gates : Stmt := inClass (top 41) 9
abbrev s_Beach_deeds : Stmt := inClass (top 41) 10
abbrev s_Beach_gates_at : Stmt := inClass (top 41) 11
abbrev s_Beach_two_gates_at : Stmt := inClass (top 41) 12
abbrev s_Beach_steepest : Stmt := inClass (top 41) 14
abbrev s_Beach_flattest : Stmt := inClass (top 41) 15
abbrev s_w_at : Stmt := top 43
abbrev s_w_spread : Stmt := top 44
abbrev s_w_heights : Stmt := top 45
abbrev s_w_gates : Stmt := top 46
abbrev s_w_whole : Stmt := top 47
abbrev s_w_numbers : Stmt := top 48
abbrev s_w_would : Stmt := top 49
abbrev s_w_refusal : Stmt := top 50
abbrev s_w_done : Stmt := top 51
abbrev s_w_kept : Stmt := top 52
abbrev s_w_step : Stmt := top 53
abbrev s_w_how : Stmt := top 54
abbrev s_w_laid : Stmt := top 55
abbrev s_w_menu : Stmt := top 56
abbrev s_w_deed : Stmt := top 57
abbrev s_w_picked : Stmt := top 58
abbrev s_w_gates_at : Stmt := top 59
abbrev s_w_gcd : Stmt := top 60
abbrev s_w_throw : Stmt := top 61
abbrev s_w_gap : Stmt := top 62
abbrev s_w_by : Stmt := top 63
abbrev s_w_all : Stmt := top 64
abbrev s_w_bars : Stmt := top 65
abbrev s_w_first : Stmt := top 66
abbrev s_w_three : Stmt := top 67
abbrev s_w_barred : Stmt := top 68
abbrev s_w_edge : Stmt := top 69
abbrev s_w_both : Stmt := top 70
abbrev s_law : Stmt := top 71
abbrev qv : Program := { PySem.Challenge.pw_throwgate_k39_whole_steepest_flattest with main := { PySem.Challenge.pw_throwgate_k39_whole_steepest_flattest.main with body := [s_law] } }
def loose0 : List Str := [Str.ofString "_wall", Str.ofString "LEAST", Str.ofString "GREATEST", Str.ofString "MOST_GATES", Str.ofString "MOST_DEEDS", Str.ofString "BeachError", Str.ofString "NoGate", Str.ofString "Taken"]
def loose1 : List Str := [Str.ofString "UpsideDown", Str.ofString "OutOfBounds", Str.ofString "BeachFull", Str.ofString "DeedsFull", Str.ofString "NothingBack", Str.ofString "BadList", Str.ofString "TooFew", Str.ofString "side_of_line"]
def loose2 : List Str := [Str.ofString "barring", Str.ofString "first_three", Str.ofString "greatest_divisor", Str.ofString "lowest", Str.ofString "compare", Str.ofString "height_at", Str.ofString "line_by", Str.ofString "passes"]
def loose3 : List Str := [Str.ofString "passes_all", Str.ofString "foot_to_head", Str.ofString "tightest_pair", Str.ofString "steepest_found", Str.ofString "bar_told", Str.ofString "steepest_throw", Str.ofString "turned_over", Str.ofString "turned_throw"]
def loose4 : List Str := [Str.ofString "flattest_throw", Str.ofString "check_gate", Str.ofString "check_places", Str.ofString "Beach", Str.ofString "_law_at", Str.ofString "_law_spread", Str.ofString "_law_heights", Str.ofString "_law_gates"]
def loose5 : List Str := [Str.ofString "_law_whole", Str.ofString "_law_numbers", Str.ofString "_law_would", Str.ofString "_law_refusal", Str.ofString "_law_done", Str.ofString "_law_kept", Str.ofString "_law_step", Str.ofString "_law_how"]
def loose6 : List Str := [Str.ofString "_law_laid", Str.ofString "_law_menu", Str.ofString "_law_deed", Str.ofString "_law_picked", Str.ofString "_law_gates_at", Str.ofString "_law_gcd", Str.ofString "_law_throw", Str.ofString "_law_gap"]
def loose7 : List Str := [Str.ofString "_law_by", Str.ofString "_law_all", Str.ofString "_law_bars", Str.ofString "_law_first", Str.ofString "_law_three", Str.ofString "_law_barred", Str.ofString "_law_edge", Str.ofString "_law_both"]
def looseN : List Str := loose0 ++ loose1 ++ loose2 ++ loose3 ++ loose4 ++ loose5 ++ loose6 ++ loose7
def addrs : List Addr := [2, 3, 15, 17, 18, 20, 21, 22, 29, 30, 31, 32, 35, 42, 43, 44, 47, 54, 55, 56, 59, 66, 67, 68, 71, 78, 79, 80, 83, 90, 91, 92, 95, 102, 103, 104, 107, 114, 115, 116, 119, 126, 127, 128, 131, 138, 139, 140, 143, 145, 146, 148, 149, 150, 152, 153, 155, 156, 157, 159, 160, 162, 163, 164, 166, 167, 169, 170, 171, 173, 174, 176, 177, 178, 180, 181, 183, 184, 185, 187, 188, 190, 191, 192, 194, 195, 197, 198, 199, 201, 202, 204, 205, 206, 209, 210, 211, 213, 214, 216, 217, 218, 220, 221, 223, 224, 225, 227, 228, 230, 231, 232, 234, 235, 237, 238, 239, 241, 242, 244, 245, 246, 248, 249, 251, 252, 253, 255, 256, 258, 259, 260, 263, 264, 265, 267, 268, 270, 271, 272, 274, 275, 277, 278, 286, 288, 289, 291, 292, 293, 296, 297, 298, 300, 301, 303, 304, 305, 308, 309, 310, 312, 313, 315, 316, 317, 319, 320, 322, 323, 324, 326, 327, 329, 330, 331, 333, 334, 336, 337, 338, 339, 341, 342, 344, 345, 346, 348, 349, 351, 352, 353, 355, 356, 358, 359, 360, 363, 364, 365, 367, 368, 370, 371, 372, 374, 375, 377, 378, 379, 381, 382, 384, 385, 386, 388, 389, 391, 392, 393, 395, 396, 398, 399, 400, 402, 403, 405, 406, 407, 409, 410, 412, 413, 414, 415, 416, 417, 418, 421, 423, 424, 426, 427, 428, 430, 431, 433, 434, 435, 437, 438, 440, 441, 442, 444, 445, 447, 448, 449, 451, 452, 454, 455, 456, 458, 459, 461, 462, 463, 465, 466, 468, 469, 470, 472, 473, 475, 476, 477, 479, 480, 482, 483, 484, 486, 487, 489, 490, 491, 493, 494, 496, 497, 498, 500, 501, 503, 504, 505, 507, 508, 510, 511, 512, 514, 515, 517, 518, 519, 521, 522, 524, 525, 526, 528, 529, 531, 532, 533, 536, 537, 538, 540, 541, 543, 544, 545, 547, 548, 550, 551, 552, 554, 555, 557, 558, 559, 561, 562, 564, 565, 566, 568, 569, 571, 572, 573, 575, 576, 578, 579, 580, 582, 583, 585, 586, 587, 589, 590, 592, 593, 594, 596, 597, 599, 600, 601, 603, 604, 606, 607, 608, 610, 611, 613, 614, 615, 618, 619]
def obs0 (K : PySem.W.Frag) : List (Bool) := [seeC K "Beach" ["standing", "past"], seeE K "BeachError", seeE K "NoGate", seeE K "Taken", seeE K "UpsideDown", seeE K "OutOfBounds", seeE K "BeachFull", seeE K "DeedsFull"]
def val0 : List (Bool) := [true, true, true, true, true, true, true, true]
def obs1 (K : PySem.W.Frag) : List (Bool) := [seeE K "NothingBack", seeE K "BadList", seeE K "TooFew", seeZ K "abs", seeZ K "all", seeZ K "bool", seeZ K "dict", seeZ K "enumerate"]
def val1 : List (Bool) := [true, true, true, true, true, true, true, true]
def obs2 (K : PySem.W.Frag) : List (Bool) := [seeZ K "int", seeZ K "isinstance", seeZ K "len", seeZ K "list", seeZ K "max", seeZ K "min", seeZ K "range", seeZ K "set"]
def val2 : List (Bool) := [true, true, true, true, true, true, true, true]
def obs3 (K : PySem.W.Frag) : List (Bool) := [seeZ K "sorted", seeZ K "str", seeZ K "tuple"]
def val3 : List (Bool) := [true, true, true]
def obs4 (K : PySem.W.Frag) : List (Option Bool) := [seeX K "NoGate" "NoGate", seeX K "NoGate" "Taken", seeX K "NoGate" "UpsideDown", seeX K "NoGate" "OutOfBounds", seeX K "NoGate" "BeachFull", seeX K "NoGate" "DeedsFull", seeX K "NoGate" "NothingBack", seeX K "Taken" "NoGate"]
def val4 : List (Option Bool) := [some true, some false, some false, some false, some false, some false, some false, some false]
def obs5 (K : PySem.W.Frag) : List (Option Bool) := [seeX K "Taken" "Taken", seeX K "Taken" "UpsideDown", seeX K "Taken" "OutOfBounds", seeX K "Taken" "BeachFull", seeX K "Taken" "DeedsFull", seeX K "Taken" "NothingBack", seeX K "UpsideDown" "NoGate", seeX K "UpsideDown" "Taken"]
def val5 : List (Option Bool) := [some true, some false, some false, some false, some false, some false, some false, some false]
def obs6 (K : PySem.W.Frag) : List (Option Bool) := [seeX K "UpsideDown" "UpsideDown", seeX K "UpsideDown" "OutOfBounds", seeX K "UpsideDown" "BeachFull", seeX K "UpsideDown" "DeedsFull", seeX K "UpsideDown" "NothingBack", seeX K "OutOfBounds" "NoGate", seeX K "OutOfBounds" "Taken", seeX K "OutOfBounds" "UpsideDown"]
def val6 : List (Option Bool) := [some true, some false, some false, some false, some false, some false, some false, some false]
def obs7 (K : PySem.W.Frag) : List (Option Bool) := [seeX K "OutOfBounds" "OutOfBounds", seeX K "OutOfBounds" "BeachFull", seeX K "OutOfBounds" "DeedsFull", seeX K "OutOfBounds" "NothingBack", seeX K "BeachFull" "NoGate", seeX K "BeachFull" "Taken", seeX K "BeachFull" "UpsideDown", seeX K "BeachFull" "OutOfBounds"]
def val7 : List (Option Bool) := [some true, some false, some false, some false, some false, some false, some false, some false]
def obs8 (K : PySem.W.Frag) : List (Option Bool) := [seeX K "BeachFull" "BeachFull", seeX K "BeachFull" "DeedsFull", seeX K "BeachFull" "NothingBack", seeX K "DeedsFull" "NoGate", seeX K "DeedsFull" "Taken", seeX K "DeedsFull" "UpsideDown", seeX K "DeedsFull" "OutOfBounds", seeX K "DeedsFull" "BeachFull"]
def val8 : List (Option Bool) := [some true, some false, some false, some false, some false, some false, some false, some false]
def obs9 (K : PySem.W.Frag) : List (Option Bool) := [seeX K "DeedsFull" "DeedsFull", seeX K "DeedsFull" "NothingBack", seeX K "NothingBack" "NoGate", seeX K "NothingBack" "Taken", seeX K "NothingBack" "UpsideDown", seeX K "NothingBack" "OutOfBounds", seeX K "NothingBack" "BeachFull", seeX K "NothingBack" "DeedsFull"]
def val9 : List (Option Bool) := [some true, some false, some false, some false, some false, some false, some false, some false]
def obs10 (K : PySem.W.Frag) : List (Option Bool) := [seeX K "NothingBack" "NothingBack", seeX K "BadList" "NoGate", seeX K "BadList" "Taken", seeX K "BadList" "UpsideDown", seeX K "BadList" "OutOfBounds", seeX K "BadList" "BeachFull", seeX K "BadList" "DeedsFull", seeX K "BadList" "NothingBack"]
def val10 : List (Option Bool) := [some true, some false, some false, some false, some false, some false, some false, some false]
def obs11 (K : PySem.W.Frag) : List (Option Bool) := [seeX K "TooFew" "NoGate", seeX K "TooFew" "Taken", seeX K "TooFew" "UpsideDown", seeX K "TooFew" "OutOfBounds", seeX K "TooFew" "BeachFull", seeX K "TooFew" "DeedsFull", seeX K "TooFew" "NothingBack"]
def val11 : List (Option Bool) := [some false, some false, some false, some false, some false, some false, some false]
def obs12 (K : PySem.W.Frag) : List (Seen) := [seeD K "side_of_line", seeD K "barring", seeD K "first_three", seeD K "greatest_divisor", seeD K "lowest", seeD K "compare", seeD K "height_at", seeD K "line_by"]
def val12 : List (Seen) := [asks "side_of_line" "side_of_line" s_side_of_line [], asks "barring" "barring" s_barring [], asks "first_three" "first_three" s_first_three [], asks "greatest_divisor" "greatest_divisor" s_greatest_divisor [], asks "lowest" "lowest" s_lowest [], asks "compare" "compare" s_compare [], asks "height_at" "height_at" s_height_at [], asks "line_by" "line_by" s_line_by []]
def obs13 (K : PySem.W.Frag) : List (Seen) := [seeD K "passes", seeD K "passes_all", seeD K "foot_to_head", seeD K "tightest_pair", seeD K "steepest_found", seeD K "bar_told", seeD K "steepest_throw", seeD K "turned_over"]
def val13 : List (Seen) := [asks "passes" "passes" s_passes [], asks "passes_all" "passes_all" s_passes_all [], asks "foot_to_head" "foot_to_head" s_foot_to_head [], asks "tightest_pair" "tightest_pair" s_tightest_pair [], asks "steepest_found" "steepest_found" s_steepest_found [], asks "bar_told" "bar_told" s_bar_told [], asks "steepest_throw" "steepest_throw" s_steepest_throw [], asks "turned_over" "turned_over" s_turned_over []]
def obs14 (K : PySem.W.Frag) : List (Seen) := [seeD K "turned_throw", seeD K "flattest_throw", seeD K "check_gate", seeD K "check_places", seeM K "Beach" "__init__" "Beach.__init__", seeM K "Beach" "has_gate" "Beach.has_gate", seeM K "Beach" "gate_at" "Beach.gate_at", seeM K "Beach" "do_deed" "Beach.do_deed"]
def val14 : List (Seen) := [asks "turned_throw" "turned_throw" s_turned_throw [], asks "flattest_throw" "flattest_throw" s_flattest_throw [], asks "check_gate" "check_gate" s_check_gate [], asks "check_places" "check_places" s_check_places [], asks "__init__" "Beach.__init__" s_Beach_init [], asks "has_gate" "Beach.has_gate" s_Beach_has_gate [], asks "gate_at" "Beach.gate_at" s_Beach_gate_at [], asks "do_deed" "Beach.do_deed" s_Beach_do_deed []]
def obs15 (K : PySem.W.Frag) : List (Seen) := [seeM K "Beach" "put" "Beach.put", seeM K "Beach" "take" "Beach.take", seeM K "Beach" "lift" "Beach.lift", seeM K "Beach" "sink" "Beach.sink", seeM K "Beach" "back" "Beach.back", seeM K "Beach" "gates" "Beach.gates", seeM K "Beach" "deeds" "Beach.deeds", seeM K "Beach" "gates_at" "Beach.gates_at"]
def val15 : List (Seen) := [asks "put" "Beach.put" s_Beach_put [], asks "take" "Beach.take" s_Beach_take [], asks "lift" "Beach.lift" s_Beach_lift [], asks "sink" "Beach.sink" s_Beach_sink [], asks "back" "Beach.back" s_Beach_back [1], asks "gates" "Beach.gates" s_Beach_gates [], asks "deeds" "Beach.deeds" s_Beach_deeds [], asks "gates_at" "Beach.gates_at" s_Beach_gates_at []]
def obs16 (K : PySem.W.Frag) : List (Seen) := [seeM K "Beach" "two_gates_at" "Beach.two_gates_at", seeM K "Beach" "steepest" "Beach.steepest", seeM K "Beach" "flattest" "Beach.flattest", seeD K "_law_at", seeD K "_law_spread", seeD K "_law_heights", seeD K "_law_gates", seeD K "_law_whole"]
def val16 : List (Seen) := [asks "two_gates_at" "Beach.two_gates_at" s_Beach_two_gates_at [], asks "steepest" "Beach.steepest" s_Beach_steepest [], asks "flattest" "Beach.flattest" s_Beach_flattest [], asks "_law_at" "_law_at" s_w_at [], asks "_law_spread" "_law_spread" s_w_spread [], asks "_law_heights" "_law_heights" s_w_heights [], asks "_law_gates" "_law_gates" s_w_gates [], asks "_law_whole" "_law_whole" s_w_whole []]
def obs17 (K : PySem.W.Frag) : List (Seen) := [seeD K "_law_numbers", seeD K "_law_would", seeD K "_law_refusal", seeD K "_law_done", seeD K "_law_kept", seeD K "_law_step", seeD K "_law_how", seeD K "_law_laid"]
def val17 : List (Seen) := [asks "_law_numbers" "_law_numbers" s_w_numbers [], asks "_law_would" "_law_would" s_w_would [], asks "_law_refusal" "_law_refusal" s_w_refusal [], asks "_law_done" "_law_done" s_w_done [], asks "_law_kept" "_law_kept" s_w_kept [], asks "_law_step" "_law_step" s_w_step [], asks "_law_how" "_law_how" s_w_how [], asks "_law_laid" "_law_laid" s_w_laid []]
def obs18 (K : PySem.W.Frag) : List (Seen) := [seeD K "_law_menu", seeD K "_law_deed", seeD K "_law_picked", seeD K "_law_gates_at", seeD K "_law_gcd", seeD K "_law_throw", seeD K "_law_gap", seeD K "_law_by"]
def val18 : List (Seen) := [asks "_law_menu" "_law_menu" s_w_menu [], asks "_law_deed" "_law_deed" s_w_deed [], asks "_law_picked" "_law_picked" s_w_picked [], asks "_law_gates_at" "_law_gates_at" s_w_gates_at [], asks "_law_gcd" "_law_gcd" s_w_gcd [], asks "_law_throw" "_law_throw" s_w_throw [], asks "_law_gap" "_law_gap" s_w_gap [], asks "_law_by" "_law_by" s_w_by []]
def obs19 (K : PySem.W.Frag) : List (Seen) := [seeD K "_law_all", seeD K "_law_bars", seeD K "_law_first", seeD K "_law_three", seeD K "_law_barred", seeD K "_law_edge", seeD K "_law_both", seeD K "law"]
def val19 : List (Seen) := [asks "_law_all" "_law_all" s_w_all [], asks "_law_bars" "_law_bars" s_w_bars [], asks "_law_first" "_law_first" s_w_first [], asks "_law_three" "_law_three" s_w_three [], asks "_law_barred" "_law_barred" s_w_barred [], asks "_law_edge" "_law_edge" s_w_edge [], asks "_law_both" "_law_both" s_w_both [], asks "law" "law" s_law []]
def obs20 (K : PySem.W.Frag) : List (Option Int) := [seeI K "LEAST", seeI K "GREATEST", seeI K "MOST_GATES", seeI K "MOST_DEEDS"]
def val20 : List (Option Int) := [some (-1000), some (1000), some (40), some (300)]
def obsK (K : PySem.W.Frag) : List (Bool) × List (Bool) × List (Bool) × List (Bool) × List (Option Bool) × List (Option Bool) × List (Option Bool) × List (Option Bool) × List (Option Bool) × List (Option Bool) × List (Option Bool) × List (Option Bool) × List (Seen) × List (Seen) × List (Seen) × List (Seen) × List (Seen) × List (Seen) × List (Seen) × List (Seen) × List (Option Int) := (obs0 K, obs1 K, obs2 K, obs3 K, obs4 K, obs5 K, obs6 K, obs7 K, obs8 K, obs9 K, obs10 K, obs11 K, obs12 K, obs13 K, obs14 K, obs15 K, obs16 K, obs17 K, obs18 K, obs19 K, obs20 K)
def valK : List (Bool) × List (Bool) × List (Bool) × List (Bool) × List (Option Bool) × List (Option Bool) × List (Option Bool) × List (Option Bool) × List (Option Bool) × List (Option Bool) × List (Option Bool) × List (Option Bool) × List (Seen) × List (Seen) × List (Seen) × List (Seen) × List (Seen) × List (Seen) × List (Seen) × List (Seen) × List (Option Int) := (val0, val1, val2, val3, val4, val5, val6, val7, val8, val9, val10, val11, val12, val13, val14, val15, val16, val17, val18, val19, val20)
noncomputable def runA (w : World) (os : PySem.OsState) := runAll PySem.Challenge.pw_throwgate_k39_whole_steepest_flattest qv looseN (fun _ => ()) 4657 w os
noncomputable def goodA := some (true, PySem.W.openGood qv looseN, ())
noncomputable def runB (w : World) (os : PySem.OsState) := runObs PySem.Challenge.pw_throwgate_k39_whole_steepest_flattest (fun s => obsK (KofT addrs s)) 4657 w os
noncomputable def goodB := some valK
theorem runA_self : runA = runA := rfl
theorem goodA_self : goodA = goodA := rfl
name_quick runAY for TG.runA by TG.runA_self
name_quick goodAY for TG.goodA by TG.goodA_self
theorem runA0 (w : World) (os : PySem.OsState) : PySem.W.Fast.runAY w os = PySem.W.Fast.goodAY := by kernel_rfl
theorem runA1 (w : World) (os : PySem.OsState) : runA w os = goodA := ((congrFun (congrFun PySem.W.Fast.runAY_eq w) os).trans (runA0 w os)).trans PySem.W.Fast.goodAY_eq.symm
theorem runB_self : runB = runB := rfl
theorem goodB_self : goodB = goodB := rfl
name_quick runBY for TG.runB by TG.runB_self
name_quick goodBY for TG.goodB by TG.goodB_self
theorem runB0 (w : World) (os : PySem.OsState) : PySem.W.Fast.runBY w os = PySem.W.Fast.goodBY := by kernel_rfl
theorem runB1 (w : World) (os : PySem.OsState) : runB w os = goodB := ((congrFun (congrFun PySem.W.Fast.runBY_eq w) os).trans (runB0 w os)).trans PySem.W.Fast.goodBY_eq.symm
theorem runs (w : World) (os : PySem.OsState) : runAll PySem.Challenge.pw_throwgate_k39_whole_steepest_flattest qv looseN (fun s => obsK (KofT addrs s)) 4657 w os = some (true, PySem.W.openGood qv looseN, valK) := runAll_two (runA1 w os) (runB1 w os)
theorem left : PySem.W.LeftO PySem.Challenge.pw_throwgate_k39_whole_steepest_flattest qv looseN (fun _ => true) (fun s => obsK (Kof addrs s.heap)) (fun _ => valK) 9374 :=
  left_of (M := 4657) (obs := fun s => obsK (KofT addrs s)) (by kernel_rfl) rfl (fun _ => rfl) rfl (fun s => congrArg obsK (Kof_abs addrs s)) runs
set_option genInjectivity false in
set_option genSizeOfSpec false in
structure Tx (K : PySem.W.Frag) (mg : Str → Option Value) where
  C_Beach : Addr
  m_Beach : mg "Beach" = some (.ref C_Beach)
  cl_Beach : Cls K C_Beach
  n_Beach_standing : NoAttr K C_Beach "standing"
  n_Beach_past : NoAttr K C_Beach "past"
  C_BeachError : Addr
  m_BeachError : mg "BeachError" = some (.ref C_BeachError)
  e_BeachError : ErrC K C_BeachError
  C_NoGate : Addr
  m_NoGate : mg "NoGate" = some (.ref C_NoGate)
  e_NoGate : ErrC K C_NoGate
  C_Taken : Addr
  m_Taken : mg "Taken" = some (.ref C_Taken)
  e_Taken : ErrC K C_Taken
  C_UpsideDown : Addr
  m_UpsideDown : mg "UpsideDown" = some (.ref C_UpsideDown)
  e_UpsideDown : ErrC K C_UpsideDown
  C_OutOfBounds : Addr
  m_OutOfBounds : mg "OutOfBounds" = some (.ref C_OutOfBounds)
  e_OutOfBounds : ErrC K C_OutOfBounds
  C_BeachFull : Addr
  m_BeachFull : mg "BeachFull" = some (.ref C_BeachFull)
  e_BeachFull : ErrC K C_BeachFull
  C_DeedsFull : Addr
  m_DeedsFull : mg "DeedsFull" = some (.ref C_DeedsFull)
  e_DeedsFull : ErrC K C_DeedsFull
  C_NothingBack : Addr
  m_NothingBack : mg "NothingBack" = some (.ref C_NothingBack)
  e_NothingBack : ErrC K C_NothingBack
  C_BadList : Addr
  m_BadList : mg "BadList" = some (.ref C_BadList)
  e_BadList : ErrC K C_BadList
  C_TooFew : Addr
  m_TooFew : mg "TooFew" = some (.ref C_TooFew)
  e_TooFew : ErrC K C_TooFew
  x_NoGate_NoGate : PySem.W.exmOne K (.ref C_NoGate) (.ref C_NoGate) = some true
  x_NoGate_Taken : PySem.W.exmOne K (.ref C_NoGate) (.ref C_Taken) = some false
  x_NoGate_UpsideDown : PySem.W.exmOne K (.ref C_NoGate) (.ref C_UpsideDown) = some false
  x_NoGate_OutOfBounds : PySem.W.exmOne K (.ref C_NoGate) (.ref C_OutOfBounds) = some false
  x_NoGate_BeachFull : PySem.W.exmOne K (.ref C_NoGate) (.ref C_BeachFull) = some false
  x_NoGate_DeedsFull : PySem.W.exmOne K (.ref C_NoGate) (.ref C_DeedsFull) = some false
  x_NoGate_NothingBack : PySem.W.exmOne K (.ref C_NoGate) (.ref C_NothingBack) = some false
  x_Taken_NoGate : PySem.W.exmOne K (.ref C_Taken) (.ref C_NoGate) = some false
  x_Taken_Taken : PySem.W.exmOne K (.ref C_Taken) (.ref C_Taken) = some true
  x_Taken_UpsideDown : PySem.W.exmOne K (.ref C_Taken) (.ref C_UpsideDown) = some false
  x_Taken_OutOfBounds : PySem.W.exmOne K (.ref C_Taken) (.ref C_OutOfBounds) = some false
  x_Taken_BeachFull : PySem.W.exmOne K (.ref C_Taken) (.ref C_BeachFull) = some false
  x_Taken_DeedsFull : PySem.W.exmOne K (.ref C_Taken) (.ref C_DeedsFull) = some false
  x_Taken_NothingBack : PySem.W.exmOne K (.ref C_Taken) (.ref C_NothingBack) = some false
  x_UpsideDown_NoGate : PySem.W.exmOne K (.ref C_UpsideDown) (.ref C_NoGate) = some false
  x_UpsideDown_Taken : PySem.W.exmOne K (.ref C_UpsideDown) (.ref C_Taken) = some false
  x_UpsideDown_UpsideDown : PySem.W.exmOne K (.ref C_UpsideDown) (.ref C_UpsideDown) = some true
  x_UpsideDown_OutOfBounds : PySem.W.exmOne K (.ref C_UpsideDown) (.ref C_OutOfBounds) = some false
  x_UpsideDown_BeachFull : PySem.W.exmOne K (.ref C_UpsideDown) (.ref C_BeachFull) = some false
  x_UpsideDown_DeedsFull : PySem.W.exmOne K (.ref C_UpsideDown) (.ref C_DeedsFull) = some false
  x_UpsideDown_NothingBack : PySem.W.exmOne K (.ref C_UpsideDown) (.ref C_NothingBack) = some false
  x_OutOfBounds_NoGate : PySem.W.exmOne K (.ref C_OutOfBounds) (.ref C_NoGate) = some false
  x_OutOfBounds_Taken : PySem.W.exmOne K (.ref C_OutOfBounds) (.ref C_Taken) = some false
  x_OutOfBounds_UpsideDown : PySem.W.exmOne K (.ref C_OutOfBounds) (.ref C_UpsideDown) = some false
  x_OutOfBounds_OutOfBounds : PySem.W.exmOne K (.ref C_OutOfBounds) (.ref C_OutOfBounds) = some true
  x_OutOfBounds_BeachFull : PySem.W.exmOne K (.ref C_OutOfBounds) (.ref C_BeachFull) = some false
  x_OutOfBounds_DeedsFull : PySem.W.exmOne K (.ref C_OutOfBounds) (.ref C_DeedsFull) = some false
  x_OutOfBounds_NothingBack : PySem.W.exmOne K (.ref C_OutOfBounds) (.ref C_NothingBack) = some false
  x_BeachFull_NoGate : PySem.W.exmOne K (.ref C_BeachFull) (.ref C_NoGate) = some false
  x_BeachFull_Taken : PySem.W.exmOne K (.ref C_BeachFull) (.ref C_Taken) = some false
  x_BeachFull_UpsideDown : PySem.W.exmOne K (.ref C_BeachFull) (.ref C_UpsideDown) = some false
  x_BeachFull_OutOfBounds : PySem.W.exmOne K (.ref C_BeachFull) (.ref C_OutOfBounds) = some false
  x_BeachFull_BeachFull : PySem.W.exmOne K (.ref C_BeachFull) (.ref C_BeachFull) = some true
  x_BeachFull_DeedsFull : PySem.W.exmOne K (.ref C_BeachFull) (.ref C_DeedsFull) = some false
  x_BeachFull_NothingBack : PySem.W.exmOne K (.ref C_BeachFull) (.ref C_NothingBack) = some false
  x_DeedsFull_NoGate : PySem.W.exmOne K (.ref C_DeedsFull) (.ref C_NoGate) = some false
  x_DeedsFull_Taken : PySem.W.exmOne K (.ref C_DeedsFull) (.ref C_Taken) = some false
  x_DeedsFull_UpsideDown : PySem.W.exmOne K (.ref C_DeedsFull) (.ref C_UpsideDown) = some false
  x_DeedsFull_OutOfBounds : PySem.W.exmOne K (.ref C_DeedsFull) (.ref C_OutOfBounds) = some false
  x_DeedsFull_BeachFull : PySem.W.exmOne K (.ref C_DeedsFull) (.ref C_BeachFull) = some false
  x_DeedsFull_DeedsFull : PySem.W.exmOne K (.ref C_DeedsFull) (.ref C_DeedsFull) = some true
  x_DeedsFull_NothingBack : PySem.W.exmOne K (.ref C_DeedsFull) (.ref C_NothingBack) = some false
  x_NothingBack_NoGate : PySem.W.exmOne K (.ref C_NothingBack) (.ref C_NoGate) = some false
  x_NothingBack_Taken : PySem.W.exmOne K (.ref C_NothingBack) (.ref C_Taken) = some false
  x_NothingBack_UpsideDown : PySem.W.exmOne K (.ref C_NothingBack) (.ref C_UpsideDown) = some false
  x_NothingBack_OutOfBounds : PySem.W.exmOne K (.ref C_NothingBack) (.ref C_OutOfBounds) = some false
  x_NothingBack_BeachFull : PySem.W.exmOne K (.ref C_NothingBack) (.ref C_BeachFull) = some false
  x_NothingBack_DeedsFull : PySem.W.exmOne K (.ref C_NothingBack) (.ref C_DeedsFull) = some false
  x_NothingBack_NothingBack : PySem.W.exmOne K (.ref C_NothingBack) (.ref C_NothingBack) = some true
  x_BadList_NoGate : PySem.W.exmOne K (.ref C_BadList) (.ref C_NoGate) = some false
  x_BadList_Taken : PySem.W.exmOne K (.ref C_BadList) (.ref C_Taken) = some false
  x_BadList_UpsideDown : PySem.W.exmOne K (.ref C_BadList) (.ref C_UpsideDown) = some false
  x_BadList_OutOfBounds : PySem.W.exmOne K (.ref C_BadList) (.ref C_OutOfBounds) = some false
  x_BadList_BeachFull : PySem.W.exmOne K (.ref C_BadList) (.ref C_BeachFull) = some false
  x_BadList_DeedsFull : PySem.W.exmOne K (.ref C_BadList) (.ref C_DeedsFull) = some false
  x_BadList_NothingBack : PySem.W.exmOne K (.ref C_BadList) (.ref C_NothingBack) = some false
  x_TooFew_NoGate : PySem.W.exmOne K (.ref C_TooFew) (.ref C_NoGate) = some false
  x_TooFew_Taken : PySem.W.exmOne K (.ref C_TooFew) (.ref C_Taken) = some false
  x_TooFew_UpsideDown : PySem.W.exmOne K (.ref C_TooFew) (.ref C_UpsideDown) = some false
  x_TooFew_OutOfBounds : PySem.W.exmOne K (.ref C_TooFew) (.ref C_OutOfBounds) = some false
  x_TooFew_BeachFull : PySem.W.exmOne K (.ref C_TooFew) (.ref C_BeachFull) = some false
  x_TooFew_DeedsFull : PySem.W.exmOne K (.ref C_TooFew) (.ref C_DeedsFull) = some false
  x_TooFew_NothingBack : PySem.W.exmOne K (.ref C_TooFew) (.ref C_NothingBack) = some false
  f_side_of_line : Addr
  fd_side_of_line : FuncData
  d_side_of_line : D K mg "side_of_line" s_side_of_line ["place", "height", "start", "end"] f_side_of_line fd_side_of_line
  f_barring : Addr
  fd_barring : FuncData
  d_barring : D K mg "barring" s_barring ["one", "two", "three"] f_barring fd_barring
  f_first_three : Addr
  fd_first_three : FuncData
  d_first_three : D K mg "first_three" s_first_three ["gates"] f_first_three fd_first_three
  f_greatest_divisor : Addr
  fd_greatest_divisor : FuncData
  d_greatest_divisor : D K mg "greatest_divisor" s_greatest_divisor ["one", "two"] f_greatest_divisor fd_greatest_divisor
  f_lowest : Addr
  fd_lowest : FuncData
  d_lowest : D K mg "lowest" s_lowest ["top", "bottom"] f_lowest fd_lowest
  f_compare : Addr
  fd_compare : FuncData
  d_compare : D K mg "compare" s_compare ["one", "two"] f_compare fd_compare
  f_height_at : Addr
  fd_height_at : FuncData
  d_height_at : D K mg "height_at" s_height_at ["throw", "place"] f_height_at fd_height_at
  f_line_by : Addr
  fd_line_by : FuncData
  d_line_by : D K mg "line_by" s_line_by ["place", "height", "other", "second"] f_line_by fd_line_by
  f_passes : Addr
  fd_passes : FuncData
  d_passes : D K mg "passes" s_passes ["throw", "gate"] f_passes fd_passes
  f_passes_all : Addr
  fd_passes_all : FuncData
  d_passes_all : D K mg "passes_all" s_passes_all ["throw", "gates"] f_passes_all fd_passes_all
  f_foot_to_head : Addr
  fd_foot_to_head : FuncData
  d_foot_to_head : D K mg "foot_to_head" s_foot_to_head ["earlier", "later"] f_foot_to_head fd_foot_to_head
  f_tightest_pair : Addr
  fd_tightest_pair : FuncData
  d_tightest_pair : D K mg "tightest_pair" s_tightest_pair ["ordered"] f_tightest_pair fd_tightest_pair
  f_steepest_found : Addr
  fd_steepest_found : FuncData
  d_steepest_found : D K mg "steepest_found" s_steepest_found ["ordered"] f_steepest_found fd_steepest_found
  f_bar_told : Addr
  fd_bar_told : FuncData
  d_bar_told : D K mg "bar_told" s_bar_told ["gates"] f_bar_told fd_bar_told
  f_steepest_throw : Addr
  fd_steepest_throw : FuncData
  d_steepest_throw : D K mg "steepest_throw" s_steepest_throw ["gates"] f_steepest_throw fd_steepest_throw
  f_turned_over : Addr
  fd_turned_over : FuncData
  d_turned_over : D K mg "turned_over" s_turned_over ["gate"] f_turned_over fd_turned_over
  f_turned_throw : Addr
  fd_turned_throw : FuncData
  d_turned_throw : D K mg "turned_throw" s_turned_throw ["throw"] f_turned_throw fd_turned_throw
  f_flattest_throw : Addr
  fd_flattest_throw : FuncData
  d_flattest_throw : D K mg "flattest_throw" s_flattest_throw ["gates"] f_flattest_throw fd_flattest_throw
  f_check_gate : Addr
  fd_check_gate : FuncData
  d_check_gate : D K mg "check_gate" s_check_gate ["gate"] f_check_gate fd_check_gate
  f_check_places : Addr
  fd_check_places : FuncData
  d_check_places : D K mg "check_places" s_check_places ["places"] f_check_places fd_check_places
  f_Beach_init : Addr
  fd_Beach_init : FuncData
  d_Beach_init : DM K C_Beach "__init__" "Beach.__init__" s_Beach_init ["self"] f_Beach_init fd_Beach_init
  f_Beach_has_gate : Addr
  fd_Beach_has_gate : FuncData
  d_Beach_has_gate : DM K C_Beach "has_gate" "Beach.has_gate" s_Beach_has_gate ["self", "place"] f_Beach_has_gate fd_Beach_has_gate
  f_Beach_gate_at : Addr
  fd_Beach_gate_at : FuncData
  d_Beach_gate_at : DM K C_Beach "gate_at" "Beach.gate_at" s_Beach_gate_at ["self", "place"] f_Beach_gate_at fd_Beach_gate_at
  f_Beach_do_deed : Addr
  fd_Beach_do_deed : FuncData
  d_Beach_do_deed : DM K C_Beach "do_deed" "Beach.do_deed" s_Beach_do_deed ["self", "place", "instead"] f_Beach_do_deed fd_Beach_do_deed
  f_Beach_put : Addr
  fd_Beach_put : FuncData
  d_Beach_put : DM K C_Beach "put" "Beach.put" s_Beach_put ["self", "place", "foot", "head"] f_Beach_put fd_Beach_put
  f_Beach_take : Addr
  fd_Beach_take : FuncData
  d_Beach_take : DM K C_Beach "take" "Beach.take" s_Beach_take ["self", "place"] f_Beach_take fd_Beach_take
  f_Beach_lift : Addr
  fd_Beach_lift : FuncData
  d_Beach_lift : DM K C_Beach "lift" "Beach.lift" s_Beach_lift ["self", "place", "foot_by", "head_by"] f_Beach_lift fd_Beach_lift
  f_Beach_sink : Addr
  fd_Beach_sink : FuncData
  d_Beach_sink : DM K C_Beach "sink" "Beach.sink" s_Beach_sink ["self", "place", "foot_by", "head_by"] f_Beach_sink fd_Beach_sink
  f_Beach_back : Addr
  fd_Beach_back : FuncData
  d_Beach_back : DMD K C_Beach "back" "Beach.back" s_Beach_back ["self", "many"] f_Beach_back fd_Beach_back [.int 1]
  f_Beach_gates : Addr
  fd_Beach_gates : FuncData
  d_Beach_gates : DM K C_Beach "gates" "Beach.gates" s_Beach_gates ["self"] f_Beach_gates fd_Beach_gates
  f_Beach_deeds : Addr
  fd_Beach_deeds : FuncData
  d_Beach_deeds : DM K C_Beach "deeds" "Beach.deeds" s_Beach_deeds ["self"] f_Beach_deeds fd_Beach_deeds
  f_Beach_gates_at : Addr
  fd_Beach_gates_at : FuncData
  d_Beach_gates_at : DM K C_Beach "gates_at" "Beach.gates_at" s_Beach_gates_at ["self", "places"] f_Beach_gates_at fd_Beach_gates_at
  f_Beach_two_gates_at : Addr
  fd_Beach_two_gates_at : FuncData
  d_Beach_two_gates_at : DM K C_Beach "two_gates_at" "Beach.two_gates_at" s_Beach_two_gates_at ["self", "places"] f_Beach_two_gates_at fd_Beach_two_gates_at
  f_Beach_steepest : Addr
  fd_Beach_steepest : FuncData
  d_Beach_steepest : DM K C_Beach "steepest" "Beach.steepest" s_Beach_steepest ["self", "places"] f_Beach_steepest fd_Beach_steepest
  f_Beach_flattest : Addr
  fd_Beach_flattest : FuncData
  d_Beach_flattest : DM K C_Beach "flattest" "Beach.flattest" s_Beach_flattest ["self", "places"] f_Beach_flattest fd_Beach_flattest
  f_w_at : Addr
  fd_w_at : FuncData
  d_w_at : D K mg "_law_at" s_w_at ["_law_script", "_law_k"] f_w_at fd_w_at
  f_w_spread : Addr
  fd_w_spread : FuncData
  d_w_spread : D K mg "_law_spread" s_w_spread ["_law_cell", "_law_many", "_law_mixed"] f_w_spread fd_w_spread
  f_w_heights : Addr
  fd_w_heights : FuncData
  d_w_heights : D K mg "_law_heights" s_w_heights ["_law_kind", "_law_line", "_law_wide", "_law_low", "_law_high"] f_w_heights fd_w_heights
  f_w_gates : Addr
  fd_w_gates : FuncData
  d_w_gates : D K mg "_law_gates" s_w_gates ["_law_script", "_law_at_here", "_law_many"] f_w_gates fd_w_gates
  f_w_whole : Addr
  fd_w_whole : FuncData
  d_w_whole : D K mg "_law_whole" s_w_whole ["_law_found"] f_w_whole fd_w_whole
  f_w_numbers : Addr
  fd_w_numbers : FuncData
  d_w_numbers : D K mg "_law_numbers" s_w_numbers ["_law_found", "_law_due"] f_w_numbers fd_w_numbers
  f_w_would : Addr
  fd_w_would : FuncData
  d_w_would : D K mg "_law_would" s_w_would ["_law_stands", "_law_deed_here"] f_w_would fd_w_would
  f_w_refusal : Addr
  fd_w_refusal : FuncData
  d_w_refusal : D K mg "_law_refusal" s_w_refusal ["_law_stands", "_law_past", "_law_deed_here"] f_w_refusal fd_w_refusal
  f_w_done : Addr
  fd_w_done : FuncData
  d_w_done : D K mg "_law_done" s_w_done ["_law_beach", "_law_deed_here"] f_w_done fd_w_done
  f_w_kept : Addr
  fd_w_kept : FuncData
  d_w_kept : D K mg "_law_kept" s_w_kept ["_law_stands", "_law_past", "_law_deed_here"] f_w_kept fd_w_kept
  f_w_step : Addr
  fd_w_step : FuncData
  d_w_step : D K mg "_law_step" s_w_step ["_law_beach", "_law_stands", "_law_past", "_law_deed_here"] f_w_step fd_w_step
  f_w_how : Addr
  fd_w_how : FuncData
  d_w_how : D K mg "_law_how" s_w_how ["_law_script"] f_w_how fd_w_how
  f_w_laid : Addr
  fd_w_laid : FuncData
  d_w_laid : D K mg "_law_laid" s_w_laid ["_law_beach", "_law_stands", "_law_past", "_law_script", "_law_most"] f_w_laid fd_w_laid
  f_w_menu : Addr
  fd_w_menu : FuncData
  d_w_menu : D K mg "_law_menu" s_w_menu ["_law_draw"] f_w_menu fd_w_menu
  f_w_deed : Addr
  fd_w_deed : FuncData
  d_w_deed : D K mg "_law_deed" s_w_deed ["_law_script", "_law_k", "_law_stands", "_law_past"] f_w_deed fd_w_deed
  f_w_picked : Addr
  fd_w_picked : FuncData
  d_w_picked : D K mg "_law_picked" s_w_picked ["_law_script", "_law_k", "_law_stands", "_law_most"] f_w_picked fd_w_picked
  f_w_gates_at : Addr
  fd_w_gates_at : FuncData
  d_w_gates_at : D K mg "_law_gates_at" s_w_gates_at ["_law_stands", "_law_places"] f_w_gates_at fd_w_gates_at
  f_w_gcd : Addr
  fd_w_gcd : FuncData
  d_w_gcd : D K mg "_law_gcd" s_w_gcd ["_law_one", "_law_two"] f_w_gcd fd_w_gcd
  f_w_throw : Addr
  fd_w_throw : FuncData
  d_w_throw : D K mg "_law_throw" s_w_throw ["_law_found"] f_w_throw fd_w_throw
  f_w_gap : Addr
  fd_w_gap : FuncData
  d_w_gap : D K mg "_law_gap" s_w_gap ["_law_throw_here", "_law_place", "_law_height"] f_w_gap fd_w_gap
  f_w_by : Addr
  fd_w_by : FuncData
  d_w_by : D K mg "_law_by" s_w_by ["_law_throw_here", "_law_gate"] f_w_by fd_w_by
  f_w_all : Addr
  fd_w_all : FuncData
  d_w_all : D K mg "_law_all" s_w_all ["_law_throw_here", "_law_row"] f_w_all fd_w_all
  f_w_bars : Addr
  fd_w_bars : FuncData
  d_w_bars : D K mg "_law_bars" s_w_bars ["_law_one", "_law_two", "_law_three_here"] f_w_bars fd_w_bars
  f_w_first : Addr
  fd_w_first : FuncData
  d_w_first : D K mg "_law_first" s_w_first ["_law_row"] f_w_first fd_w_first
  f_w_three : Addr
  fd_w_three : FuncData
  d_w_three : D K mg "_law_three" s_w_three ["_law_found", "_law_row"] f_w_three fd_w_three
  f_w_barred : Addr
  fd_w_barred : FuncData
  d_w_barred : D K mg "_law_barred" s_w_barred ["_law_found", "_law_row"] f_w_barred fd_w_barred
  f_w_edge : Addr
  fd_w_edge : FuncData
  d_w_edge : D K mg "_law_edge" s_w_edge ["_law_found", "_law_row", "_law_ends"] f_w_edge fd_w_edge
  f_w_both : Addr
  fd_w_both : FuncData
  d_w_both : D K mg "_law_both" s_w_both ["_law_beach", "_law_stands", "_law_places"] f_w_both fd_w_both
  f_law : Addr
  fd_law : FuncData
  d_law : D K mg "law" s_law ["_law_script"] f_law fd_law
  mk_Beach : Mk K C_Beach f_Beach_init
  u_LEAST : Value
  k_LEAST : mg "LEAST" = some u_LEAST
  r_LEAST : RelV (.int (-1000)) u_LEAST
  u_GREATEST : Value
  k_GREATEST : mg "GREATEST" = some u_GREATEST
  r_GREATEST : RelV (.int (1000)) u_GREATEST
  u_MOST_GATES : Value
  k_MOST_GATES : mg "MOST_GATES" = some u_MOST_GATES
  r_MOST_GATES : RelV (.int (40)) u_MOST_GATES
  u_MOST_DEEDS : Value
  k_MOST_DEEDS : mg "MOST_DEEDS" = some u_MOST_DEEDS
  r_MOST_DEEDS : RelV (.int (300)) u_MOST_DEEDS
  z_abs : mg "abs" = none
  z_all : mg "all" = none
  z_bool : mg "bool" = none
  z_dict : mg "dict" = none
  z_enumerate : mg "enumerate" = none
  z_int : mg "int" = none
  z_isinstance : mg "isinstance" = none
  z_len : mg "len" = none
  z_list : mg "list" = none
  z_max : mg "max" = none
  z_min : mg "min" = none
  z_range : mg "range" = none
  z_set : mg "set" = none
  z_sorted : mg "sorted" = none
  z_str : mg "str" = none
  z_tuple : mg "tuple" = none
def Tx.err {K : PySem.W.Frag} {mg : Str → Option Value} (T : Tx K mg) : Err → Value
  | .nogate => .ref T.C_NoGate
  | .taken => .ref T.C_Taken
  | .upside => .ref T.C_UpsideDown
  | .bounds => .ref T.C_OutOfBounds
  | .full => .ref T.C_BeachFull
  | .deeds => .ref T.C_DeedsFull
  | .nothing => .ref T.C_NothingBack
  | .badlist => .ref T.C_BadList
  | .few => .ref T.C_TooFew
  | _ => .none
section
variable {P : Program} {w : World} {K : PySem.W.Frag} {mg : Str → Option Value} {base : Heap}
theorem sc_side_of_line : FnScope ["place", "height", "start", "end", "steps", "gain"] ["place", "height", "start", "end"] (defScope s_side_of_line) := by walk_at "SC"
def sp_side_of_line (K : PySem.W.Frag) : Sp := fun vs H Q _ => ∃ (s e : Addr) (pl h s0 s1 e0 e1 : Int), vs = [.int pl, .int h, .ref s, .ref e] ∧ SqT K H s [.int s0, .int s1] ∧ SqT K H e [.int e0, .int e1] ∧ pl.natAbs ≤ 1000 ∧ h.natAbs ≤ 1000 ∧ s0.natAbs ≤ 1000 ∧ s1.natAbs ≤ 1000 ∧ e0.natAbs ≤ 1000 ∧ e1.natAbs ≤ 1000 ∧ Q (.int ((h - s1) * (e0 - s0) - (e1 - s1) * (pl - s0))) H
theorem ok_side_of_line (T : Tx K mg) : FnOk P w K mg base CX0 1 T.f_side_of_line T.fd_side_of_line ["place", "height", "start", "end"] (sp_side_of_line K) := by
  refine T.d_side_of_line.F.ok sc_side_of_line (fun vs H Q E h => ?_) (fun cdv A outer s H vs Q E hr h => ?_)
  · obtain ⟨s, e, pl, h, s0, s1, e0, e1, rfl, hs, he, b1, b2, b3, b4, b5, b6, k⟩ := h
    rfl
  · obtain ⟨s, e, pl, h, s0, s1, e0, e1, rfl, hs, he, b1, b2, b3, b4, b5, b6, k⟩ := h
    have hu := hu_of hr
    refine ⟨_, (pss_cons (ps_set (i := 4) sc_side_of_line.nd rfl (by walk_at "O") (pe_op op_sub (pe_ix ix_tup (pv 3) pe_int (fun _ _ => rfl)) (pe_ix ix_tup (pv 2) pe_int (fun _ _ => rfl))))
      (pss_cons (ps_set (i := 5) sc_side_of_line.nd rfl (by walk_at "O") (pe_op op_sub (pe_ix ix_tup (pv 3) pe_int (fun _ _ => rfl)) (pe_ix ix_tup (pv 2) pe_int (fun _ _ => rfl))))
      (pss_one (ps_ret (pe_op op_sub (pe_op op_mulS (pe_op op_sub (pv 1) (pe_ix ix_tup (pv 2) pe_int (fun _ _ => rfl))) (pv 4)) (pe_op op_mulS (pv 5) (pe_op op_sub (pv 0) (pe_ix ix_tup (pv 2) pe_int (fun _ _ => rfl))))))))), ?_⟩
    walk_at "RD"
    walk_at "AUTO"
    exact k
theorem sc_barring : FnScope ["one", "two", "three"] ["one", "two", "three"] (defScope s_barring) := by walk_at "SC"
def sp_barring (K : PySem.W.Frag) : Sp := fun vs H Q _ => ∃ (x y z : Addr) (a b c : G), vs = [.ref x, .ref y, .ref z] ∧ SqT K H x (G.vs a) ∧ SqT K H y (G.vs b) ∧ SqT K H z (G.vs c) ∧ OkG a ∧ OkG b ∧ OkG c ∧ a.p < b.p ∧ b.p < c.p ∧ ∀ H', Same H H' → Q (.str (barT a b c)) H'
theorem ok_barring (T : Tx K mg) : FnOk P w K mg base CX0 2 T.f_barring T.fd_barring ["one", "two", "three"] (sp_barring K) := by
  refine T.d_barring.F.ok sc_barring (fun vs H Q E h => ?_) (fun cdv A outer s H vs Q E hr h => ?_)
  · obtain ⟨x, y, z, a, b, c, rfl, ex, ey, ez, o1, o2, o3, l1, l2, k⟩ := h
    rfl
  · obtain ⟨x, y, z, a, b, c, rfl, ex, ey, ez, o1, o2, o3, l1, l2, k⟩ := h
    have hu := hu_of hr
    refine ⟨_, (pss_cons (ps_if (pt_cmpR op_gt (pe_call (ok_side_of_line T) (hr.mono (by decide)) (by rfl) T.d_side_of_line.m T.d_side_of_line.F.kp T.d_side_of_line.b .nil pass0 (pa_cons (pe_ix ix_tup (pv 1) pe_int (fun _ _ => rfl)) (pa_cons (pe_ix ix_tup (pv 1) pe_int (fun _ _ => rfl)) (pa_cons (pe_tupS (pa_cons (pe_ix ix_tup (pv 0) pe_int (fun _ _ => rfl)) (pa_cons (pe_ix ix_tup (pv 0) pe_int (fun _ _ => rfl)) pa_nil))) (pa_cons (pe_tupS (pa_cons (pe_ix ix_tup (pv 2) pe_int (fun _ _ => rfl)) (pa_cons (pe_ix ix_tup (pv 2) pe_int (fun _ _ => rfl)) pa_nil))) pa_nil))))) pe_int (nomark _)) (pss_one (ps_ret pe_str))
        pss_nil)
      (pss_cons (ps_if (pt_cmpR op_lt (pe_call (ok_side_of_line T) (hr.mono (by decide)) (by rfl) T.d_side_of_line.m T.d_side_of_line.F.kp T.d_side_of_line.b .nil pass0 (pa_cons (pe_ix ix_tup (pv 1) pe_int (fun _ _ => rfl)) (pa_cons (pe_ix ix_tup (pv 1) pe_int (fun _ _ => rfl)) (pa_cons (pe_tupS (pa_cons (pe_ix ix_tup (pv 0) pe_int (fun _ _ => rfl)) (pa_cons (pe_ix ix_tup (pv 0) pe_int (fun _ _ => rfl)) pa_nil))) (pa_cons (pe_tupS (pa_cons (pe_ix ix_tup (pv 2) pe_int (fun _ _ => rfl)) (pa_cons (pe_ix ix_tup (pv 2) pe_int (fun _ _ => rfl)) pa_nil))) pa_nil))))) pe_int (nomark _)) (pss_one (ps_ret pe_str))
        pss_nil)
      (pss_one (ps_ret pe_str)))), ?_⟩
    obtain ⟨p1, p2, p3, p4, p5⟩ := id o1
    obtain ⟨q1, q2, q3, q4, q5⟩ := id o2
    obtain ⟨r1, r2, r3, r4, r5⟩ := id o3
    have eF : (0 < (b.f - a.h) * (c.p - a.p) - (c.h - a.h) * (b.p - a.p)) ↔ FootBar a b c := by
      unfold FootBar
      have e : (b.f - a.h) * (c.p - a.p) - (c.h - a.h) * (b.p - a.p) = b.f * (c.p - a.p) - (a.h * (c.p - b.p) + c.h * (b.p - a.p)) := by grind
      rw [e]
      omega
    have eH : ((b.h - a.f) * (c.p - a.p) - (c.f - a.f) * (b.p - a.p) < 0) ↔ HeadBar a b c := by
      unfold HeadBar
      have e : (b.h - a.f) * (c.p - a.p) - (c.f - a.f) * (b.p - a.p) = b.h * (c.p - a.p) - (a.f * (c.p - b.p) + c.f * (b.p - a.p)) := by grind
      rw [e]
      omega
    walk_at "RD"
    walk_at "AUTO"
    unfold sp_side_of_line
    refine ⟨_, _, _, _, _, _, _, _, rfl, (by walk_at "SQT4"), (by walk_at "SQT4"), by omega, by omega, by omega, by omega, by omega, by omega, ?_⟩
    refine ⟨_, rfl, ?_⟩
    unfold barT at k
    by_cases hf : FootBar a b c
    · rw [if_pos (decide_eq_true (eF.mpr hf))]
      rw [if_pos hf] at k
      exact k _ (by walk_at "SAME5")
    · rw [if_neg (fun z => hf (eF.mp (of_decide_eq_true z)))]
      rw [if_neg hf] at k
      walk_at "AUTO"
      refine ⟨_, _, _, _, _, _, _, _, rfl, (by walk_at "SQT4"), (by walk_at "SQT4"), by omega, by omega, by omega, by omega, by omega, by omega, ?_⟩
      refine ⟨_, rfl, ?_⟩
      by_cases hh : HeadBar a b c
      · rw [if_pos (decide_eq_true (eH.mpr hh))]
        rw [if_pos hh] at k
        exact k _ (by walk_at "SAME5")
      · rw [if_neg (fun z => hh (eH.mp (of_decide_eq_true z)))]
        rw [if_neg hh] at k
        exact k _ (by walk_at "SAME5")
theorem sc_first_three : FnScope ["gates", "ordered", "count", "first", "middle", "last"] ["gates"] (defScope s_first_three) := by walk_at "SC"
def sp_first_three (K : PySem.W.Frag) : Sp := fun vs H Q _ => ∃ (l : Addr) (as : List Addr) (gs : List G), vs = [.ref l] ∧ SqL K H l (as.map V.ref) ∧ GsAt H as gs ∧ (gs.map G.p).Nodup ∧ gs.length ≤ 40 ∧ (∀ g ∈ gs, OkG g) ∧ (∀ H', Same H H' → FirstT gs [] → Q .non H') ∧ ∀ D H' t, Same H H' → H' D = some (.tup (t.map V.int)) → t ≠ [] → FirstT gs t → Q (.ref D) H'
theorem barT_nil {a b c : G} : barT a b c = "" ↔ ¬ Bars a b c := by
  unfold barT Bars
  by_cases hf : FootBar a b c
  · rw [if_pos hf]
    exact ⟨fun z => absurd z (by decide), fun z => absurd (.inl hf) z⟩
  · rw [if_neg hf]
    by_cases hh : HeadBar a b c
    · rw [if_pos hh]
      exact ⟨fun z => absurd z (by decide), fun z => absurd (.inr hh) z⟩
    · rw [if_neg hh]
      exact ⟨fun _ z => z.elim hf hh, fun _ => rfl⟩
def Vf1 (l D : Addr) (n : Int) (sg : List G) (H : Hp) : Nat → St → Hp → Prop := fun i σ H' => ∃ x y z, σ = [some (.ref l), some (.ref D), some (.int n), x, y, z] ∧ Same H H' ∧ NoneAhead sg i 0 0
def Vf2 (l D : Addr) (n : Int) (sg : List G) (H : Hp) (i : Nat) : Nat → St → Hp → Prop := fun t σ H' => ∃ y z, σ = [some (.ref l), some (.ref D), some (.int n), some (.int (0 + (i : Int))), y, z] ∧ Same H H' ∧ NoneAhead sg i (i + 1 + t) 0
def Vf3 (l D : Addr) (n : Int) (sg : List G) (H : Hp) (i j : Nat) : Nat → St → Hp → Prop := fun t σ H' => ∃ z, σ = [some (.ref l), some (.ref D), some (.int n), some (.int (0 + (i : Int))), some (.int (0 + (i : Int) + 1 + (j : Int))), z] ∧ Same H H' ∧ NoneAhead sg i (i + 1 + j) (i + 1 + j + 1 + t)
theorem ok_first_three (T : Tx K mg) : FnOk P w K mg base CX0 3 T.f_first_three T.fd_first_three ["gates"] (sp_first_three K) := by
  refine T.d_first_three.F.ok sc_first_three (fun vs H Q E h => ?_) (fun cdv A outer s H vs Q E hr h => ?_)
  · obtain ⟨l, as0, gs0, rfl, hl0, ga0, nd, h64, ok0, kn, kk⟩ := h
    rfl
  · obtain ⟨l, as0, gs0, rfl, hl0, ga0, nd, h64, ok0, kn, kk⟩ := h
    have hu := hu_of hr
    refine ⟨_, (pss_cons (ps_set (i := 1) sc_first_three.nd rfl (by walk_at "O") (pe_callB call_sortedG (by rfl) T.z_sorted bo_sorted (pa_cons (pv 0) pa_nil)))
      (pss_cons (ps_set (i := 2) sc_first_three.nd rfl (by walk_at "O") (pe_callB call_len_seq (by rfl) T.z_len bo_len (pa_cons (pv 1) pa_nil)))
      (pss_cons (ps_for PassesOwn.never rfl (pi_range1 (by rfl) T.z_range (pa_cons (pv 2) pa_nil)) (pg_name (i := 3) sc_first_three.nd rfl (by walk_at "O"))
        (pss_one (ps_for PassesOwn.never rfl (pi_range2 (by rfl) T.z_range (pa_cons (pe_op op_add (pv 3) pe_int) (pa_cons (pv 2) pa_nil))) (pg_name (i := 4) sc_first_three.nd rfl (by walk_at "O"))
            (pss_one (ps_for PassesOwn.never rfl (pi_range2 (by rfl) T.z_range (pa_cons (pe_op op_add (pv 4) pe_int) (pa_cons (pv 2) pa_nil))) (pg_name (i := 5) sc_first_three.nd rfl (by walk_at "O"))
                (pss_one (ps_if (pt_cmpR op_ne (pe_call (ok_barring T) (hr.mono (by decide)) (by rfl) T.d_barring.m T.d_barring.F.kp T.d_barring.b .nil pass0 (pa_cons (pe_ix ix_list (pv 1) (pv 3) (fun _ _ => rfl)) (pa_cons (pe_ix ix_list (pv 1) (pv 4) (fun _ _ => rfl)) (pa_cons (pe_ix ix_list (pv 1) (pv 5) (fun _ _ => rfl)) pa_nil)))) pe_str (nomark _)) (pss_one (ps_ret (pe_tupS (pa_cons (pe_ix ix_tup (pe_ix ix_list (pv 1) (pv 3) (fun _ _ => rfl)) pe_int (fun _ _ => rfl)) (pa_cons (pe_ix ix_tup (pe_ix ix_list (pv 1) (pv 4) (fun _ _ => rfl)) pe_int (fun _ _ => rfl)) (pa_cons (pe_ix ix_tup (pe_ix ix_list (pv 1) (pv 5) (fun _ _ => rfl)) pe_int (fun _ _ => rfl)) pa_nil))))))
                    pss_nil)))))))
      (pss_one (ps_ret pe_non))))), ?_⟩
    walk_at "RD"
    walk_at "AUTO"
    intro D H1 as gs nD s1 e1 ga hp ha
    have ok : ∀ g ∈ gs, OkG g := fun g hg => ok0 g (hp.mem_iff.mp hg)
    have la := ga.len
    have lg := hp.length_eq
    have hlm : (as.map V.ref).length = gs.length := by rw [List.length_map, la]
    have sl := SqL.of (K := K) e1
    refine ⟨_, Or.inl sl, ?_⟩
    rw [hlm]
    refine ⟨_, rfl, (gs.length : Int), rfl, by omega, by omega, for_range (Vf1 l D gs.length gs H1) ⟨none, none, none, rfl, Same.refl _, na_start gs⟩ ?_ ?_⟩
    · rintro i σ H2 hi ⟨x, y, z, rfl, t2, n1⟩
      have hi' : i < gs.length := by omega
      refine ⟨_, rfl, _, _, rfl, rfl, _, rfl, _, _, rfl, ⟨by omega, by omega, by omega, by omega⟩, for_range (Vf2 l D gs.length gs H1 i) ⟨_, _, rfl, t2, na_mid n1⟩ ?_ ?_⟩
      · rintro j σ H3 hj ⟨y, z, rfl, t3, n2⟩
        have hj' : i + 1 + j < gs.length := by omega
        refine ⟨_, rfl, _, _, rfl, rfl, _, rfl, _, _, rfl, ⟨by omega, by omega, by omega, by omega⟩, for_range (Vf3 l D gs.length gs H1 i j) ⟨_, rfl, t3, na_in n2⟩ ?_ ?_⟩
        · rintro u σ H4 hu' ⟨z, rfl, t4, n3⟩
          have hk' : i + 1 + j + 1 + u < gs.length := by omega
          obtain ⟨a1, ha1, t1'⟩ := ga.get (List.getElem?_eq_getElem hi')
          obtain ⟨a2, ha2, t2'⟩ := ga.get (List.getElem?_eq_getElem hj')
          obtain ⟨a3, ha3, t3'⟩ := ga.get (List.getElem?_eq_getElem hk')
          have t1 := t4.get t1'
          have t2 := t4.get t2'
          have t3 := t4.get t3'
          have i1 : atI (as.map V.ref) (0 + (i : Int)) = some (V.ref a1) := by rw [Int.zero_add]; exact atI_refs ha1
          have i2 : atI (as.map V.ref) (0 + (i : Int) + 1 + (j : Int)) = some (V.ref a2) := by rw [show 0 + (i : Int) + 1 + (j : Int) = ((i + 1 + j : Nat) : Int) by omega]; exact atI_refs ha2
          have i3 : atI (as.map V.ref) (0 + (i : Int) + 1 + (j : Int) + 1 + (u : Int)) = some (V.ref a3) := by rw [show 0 + (i : Int) + 1 + (j : Int) + 1 + (u : Int) = ((i + 1 + j + 1 + u : Nat) : Int) by omega]; exact atI_refs ha3
          have o1 := ok _ (List.getElem_mem hi')
          have o2 := ok _ (List.getElem_mem hj')
          have o3 := ok _ (List.getElem_mem hk')
          have g1 := asc_lt ha (List.getElem?_eq_getElem hi') (List.getElem?_eq_getElem hj') (by omega)
          have g2 := asc_lt ha (List.getElem?_eq_getElem hj') (List.getElem?_eq_getElem hk') (by omega)
          have sl4 := t4.seq sl
          walk_at "RD"
          walk_at "AUTO"
          unfold sp_barring
          refine ⟨_, _, _, gs[i], gs[i + 1 + j], gs[i + 1 + j + 1 + u], rfl, SqT.of t1, SqT.of t2, SqT.of t3, o1, o2, o3, g1, g2, fun H5 s5 => ?_⟩
          have t5 := t4.trans s5
          have e1 := s5.get t1
          have e2 := s5.get t2
          have e3 := s5.get t3
          have sl5 := s5.seq sl4
          refine ⟨rfl, ?_⟩
          by_cases hb : Bars gs[i] gs[i + 1 + j] gs[i + 1 + j + 1 + u]
          · rw [decide_eq_false (fun z => barT_nil.mp (V.str.inj z) hb)]
            walk_at "AUTO"
            exact kk p H' [gs[i].p, gs[i + 1 + j].p, gs[i + 1 + j + 1 + u].p] (s1.trans (t5.trans hs)) he (by simp) (.perm (.yes gs (List.Perm.refl _) ha i (i + 1 + j) (i + 1 + j + 1 + u) _ _ _ ⟨⟨by omega, by omega, _, _, _, List.getElem?_eq_getElem hi', List.getElem?_eq_getElem hj', List.getElem?_eq_getElem hk', hb⟩, n3⟩ (List.getElem?_eq_getElem hi') (List.getElem?_eq_getElem hj') (List.getElem?_eq_getElem hk') rfl) hp)
          · rw [decide_eq_true (congrArg V.str (barT_nil.mpr hb))]
            refine ⟨_, rfl, t5, na_step n3 fun ⟨_, _, a, b, c, f1, f2, f3, f4⟩ => hb ?_⟩
            rw [List.getElem?_eq_getElem hi'] at f1
            rw [List.getElem?_eq_getElem hj'] at f2
            have f3 : gs[i + 1 + j + 1 + u]? = some c := f3
            rw [List.getElem?_eq_getElem hk'] at f3
            cases f1
            cases f2
            cases f3
            exact f4
        · rintro σ H4 ⟨z, rfl, t4, n3⟩
          exact ⟨_, _, rfl, t4, na_in_end (by omega) n3⟩
      · rintro σ H3 ⟨y, z, rfl, t3, n2⟩
        exact ⟨_, _, _, rfl, t3, na_mid_end (by omega) n2⟩
    · rintro σ H2 ⟨x, y, z, rfl, t2, n1⟩
      walk_at "RD"
      exact kn _ (s1.trans t2) (.perm (.no gs (List.Perm.refl _) ha (na_no n1) rfl) hp)
theorem sc_greatest_divisor : FnScope ["one", "two", "divisor", "rest", "next_rest"] ["one", "two"] (defScope s_greatest_divisor) := by walk_at "SC"
def sp_greatest_divisor : Sp := fun vs H Q _ => ∃ a b : Int, vs = [.int a, .int b] ∧ 0 ≤ a ∧ 0 ≤ b ∧ Q (.int (Int.gcd a b)) H
def W_gd (a b : Int) (H : Hp) : Nat → St → Hp → Prop := fun m σ H' => ∃ (d r : Int) (x : Option V), m = r.toNat ∧ σ = [some (.int a), some (.int b), some (.int d), some (.int r), x] ∧ H' = H ∧ 0 ≤ d ∧ 0 ≤ r ∧ Int.gcd d r = Int.gcd a b
theorem ok_greatest_divisor (T : Tx K mg) : FnOk P w K mg base CX0 1 T.f_greatest_divisor T.fd_greatest_divisor ["one", "two"] sp_greatest_divisor := by
  refine T.d_greatest_divisor.F.ok sc_greatest_divisor (fun vs H Q E h => ?_) (fun cdv A outer s H vs Q E hr h => ?_)
  · obtain ⟨a, b, rfl, ha, hb, k⟩ := h
    rfl
  · obtain ⟨a, b, rfl, ha, hb, k⟩ := h
    have hu := hu_of hr
    refine ⟨_, (pss_cons (ps_set (i := 2) sc_greatest_divisor.nd rfl (by walk_at "O") (pv 0))
      (pss_cons (ps_set (i := 3) sc_greatest_divisor.nd rfl (by walk_at "O") (pv 1))
      (pss_cons (ps_while PassesOwn.never (pt_cmpR op_ne (pv 3) pe_int (nomark _))
        (pss_cons (ps_set (i := 4) sc_greatest_divisor.nd rfl (by walk_at "O") (pe_op op_modN (pv 2) (pv 3)))
          (pss_cons (ps_set (i := 2) sc_greatest_divisor.nd rfl (by walk_at "O") (pv 3))
          (pss_one (ps_set (i := 3) sc_greatest_divisor.nd rfl (by walk_at "O") (pv 4))))))
      (pss_one (ps_ret (pv 2)))))), ?_⟩
    walk_at "RD"
    refine ⟨W_gd a b H, ⟨_, a, b, none, rfl, rfl, rfl, ha, hb, rfl⟩, ?_⟩
    rintro m σ H' ⟨d, r, x, rfl, rfl, rfl, hd, hr', e⟩
    walk_at "RDE"
    by_cases h0 : r = 0
    · subst h0
      simp only [decide_true, Bool.not_true, Bool.false_eq_true, if_false]
      walk_at "RD"
      rw [← e, gcd_zero' hd] at k
      exact k
    · simp only [h0, decide_false, Bool.not_false, if_true]
      refine ⟨_, fun _ _ h => h, ?_⟩
      walk_at "RD"
      have hp : 0 < r := by omega
      have hf := fmod_lt (d := d) hp
      refine ⟨h0, _, ?_, r, d.fmod r, _, rfl, rfl, rfl, hr', hf.1, (gcd_fmod hd hp).trans e⟩
      omega
theorem sc_lowest : FnScope ["top", "bottom", "divisor"] ["top", "bottom"] (defScope s_lowest) := by walk_at "SC"
def sp_lowest : Sp := fun vs H Q _ => ∃ t b : Int, vs = [.int t, .int b] ∧ b ≠ 0 ∧ Sm b ∧ ∀ p H' x y, Same H H' → H' p = some (.tup [.int x, .int y]) → LowT t b x y → Q (.ref p) H'
def C_lo (t b : Int) (H : Hp) : St → Hp → Prop := fun σ H' => ∃ d : Int, σ = [some (.int t), some (.int b), some (.int d)] ∧ H' = H ∧ d = if b < 0 then -((Int.gcd t b : Nat) : Int) else ((Int.gcd t b : Nat) : Int)
theorem ok_lowest (T : Tx K mg) : FnOk P w K mg base CX0 2 T.f_lowest T.fd_lowest ["top", "bottom"] sp_lowest := by
  refine T.d_lowest.F.ok sc_lowest (fun vs H Q E h => ?_) (fun cdv A outer s H vs Q E hr h => ?_)
  · obtain ⟨t, b, rfl, hb, hs, k⟩ := h
    rfl
  · obtain ⟨t, b, rfl, hb, hs, k⟩ := h
    have hu := hu_of hr
    refine ⟨_, (pss_cons (ps_set (i := 2) sc_lowest.nd rfl (by walk_at "O") (pe_call (ok_greatest_divisor T) (hr.mono (by decide)) (by rfl) T.d_greatest_divisor.m T.d_greatest_divisor.F.kp T.d_greatest_divisor.b .nil pass0 (pa_cons (pe_callB call_abs (by rfl) T.z_abs bo_abs (pa_cons (pv 0) pa_nil)) (pa_cons (pe_callB call_abs (by rfl) T.z_abs bo_abs (pa_cons (pv 1) pa_nil)) pa_nil))))
      (pss_cut (ps_if (pt_cmpR op_lt (pv 1) pe_int (nomark _)) (pss_one (ps_set (i := 2) sc_lowest.nd rfl (by walk_at "O") (pe_un un_neg (pv 2))))
        pss_nil)
      (pss_one (ps_ret (pe_tupS (pa_cons (pe_op op_fdivS (pv 0) (pv 2)) (pa_cons (pe_op op_fdivS (pv 1) (pv 2)) pa_nil))))))), ?_⟩
    delta sp_greatest_divisor
    refine ⟨by split <;> omega, by split <;> omega, C_lo t b H, ?_, ?_⟩
    · rw [gcd_abs]
      walk_at "RD"
      by_cases hn : b < 0
      · rw [if_pos (decide_eq_true hn)]
        exact ⟨_, rfl, rfl, by rw [if_pos hn]⟩
      · rw [if_neg (by simp [hn])]
        exact ⟨_, rfl, rfl, by rw [if_neg hn]⟩
    · rintro σ' H' ⟨d, rfl, rfl, hd⟩
      obtain ⟨L, d0⟩ := low_of hb hd
      have ds : Sm d := by
        refine Nat.lt_of_le_of_lt ?_ hs
        have h1 : d.natAbs = Int.gcd t b := by rw [hd]; split <;> omega
        rw [h1]
        exact Nat.le_of_dvd (by omega) (Int.gcd_dvd_natAbs_right t b)
      walk_at "RD"
      exact ⟨d0, ds, d0, ds, by decide, fun p H1 hp hs he => k p _ _ _ hs he L⟩
theorem sc_compare : FnScope ["one", "two", "left", "right"] ["one", "two"] (defScope s_compare) := by walk_at "SC"
def cmpI (x y : Int) : Int := if x < y then -1 else if y < x then 1 else 0
def sp_compare (K : PySem.W.Frag) : Sp := fun vs H Q _ => ∃ (p q : Addr) (a b c d : Int), vs = [.ref p, .ref q] ∧ SqT K H p [.int a, .int b] ∧ SqT K H q [.int c, .int d] ∧ Sm a ∧ Sm b ∧ Sm c ∧ Sm d ∧ Q (.int (cmpI (a * d) (c * b))) H
theorem ok_compare (T : Tx K mg) : FnOk P w K mg base CX0 1 T.f_compare T.fd_compare ["one", "two"] (sp_compare K) := by
  refine T.d_compare.F.ok sc_compare (fun vs H Q E h => ?_) (fun cdv A outer s H vs Q E hr h => ?_)
  · obtain ⟨p, q, a, b, c, d, rfl, h1, h2, sa, sb, sc, sd, k⟩ := h
    rfl
  · obtain ⟨p, q, a, b, c, d, rfl, h1, h2, sa, sb, sc, sd, k⟩ := h
    have hu := hu_of hr
    refine ⟨_, (pss_cons (ps_set (i := 2) sc_compare.nd rfl (by walk_at "O") (pe_op op_mulS (pe_ix ix_tup (pv 0) pe_int (fun _ _ => rfl)) (pe_ix ix_tup (pv 1) pe_int (fun _ _ => rfl))))
      (pss_cons (ps_set (i := 3) sc_compare.nd rfl (by walk_at "O") (pe_op op_mulS (pe_ix ix_tup (pv 1) pe_int (fun _ _ => rfl)) (pe_ix ix_tup (pv 0) pe_int (fun _ _ => rfl))))
      (pss_cons (ps_if (pt_cmpR op_lt (pv 2) (pv 3) (nomark _)) (pss_one (ps_ret (pe_un un_neg pe_int)))
        pss_nil)
      (pss_cons (ps_if (pt_cmpR op_gt (pv 2) (pv 3) (nomark _)) (pss_one (ps_ret pe_int))
        pss_nil)
      (pss_one (ps_ret pe_int)))))), ?_⟩
    walk_at "RD"
    walk_at "AUTO"
    unfold cmpI at k
    by_cases c1 : a * d < c * b
    · simp only [c1, decide_true, if_true] at k ⊢
      exact k
    · by_cases c2 : c * b < a * d
      · simp only [c1, c2, decide_true, decide_false, Bool.false_eq_true, if_true, if_false] at k ⊢
        exact k
      · simp only [c1, c2, decide_true, decide_false, Bool.false_eq_true, if_true, if_false] at k ⊢
        exact k
theorem sc_height_at : FnScope ["throw", "place", "height_top", "height_bottom", "rise_top", "rise_bottom", "top"] ["throw", "place"] (defScope s_height_at) := by walk_at "SC"
def sp_height_at (K : PySem.W.Frag) : Sp := fun vs H Q _ => ∃ (p : Addr) (pl a b c d : Int), vs = [.ref p, .int pl] ∧ SqT K H p [.int a, .int b, .int c, .int d] ∧ 0 < b ∧ 0 < d ∧ Md a ∧ Md b ∧ Md c ∧ Md d ∧ Md pl ∧ ∀ q H' x y, Same H H' → H' q = some (.tup [.int x, .int y]) → LowT (a * d + pl * c * b) (b * d) x y → Q (.ref q) H'
theorem ok_height_at (T : Tx K mg) : FnOk P w K mg base CX0 3 T.f_height_at T.fd_height_at ["throw", "place"] (sp_height_at K) := by
  refine T.d_height_at.F.ok sc_height_at (fun vs H Q E h => ?_) (fun cdv A outer s H vs Q E hr h => ?_)
  · obtain ⟨p, pl, a, b, c, d, rfl, h1, hb, hd, ma, mb, mc, md, mp, k⟩ := h
    rfl
  · obtain ⟨p, pl, a, b, c, d, rfl, h1, hb, hd, ma, mb, mc, md, mp, k⟩ := h
    have hu := hu_of hr
    refine ⟨_, (pss_cons (ps_set (i := 2) sc_height_at.nd rfl (by walk_at "O") (pe_ix ix_tup (pv 0) pe_int (fun _ _ => rfl)))
      (pss_cons (ps_set (i := 3) sc_height_at.nd rfl (by walk_at "O") (pe_ix ix_tup (pv 0) pe_int (fun _ _ => rfl)))
      (pss_cons (ps_set (i := 4) sc_height_at.nd rfl (by walk_at "O") (pe_ix ix_tup (pv 0) pe_int (fun _ _ => rfl)))
      (pss_cons (ps_set (i := 5) sc_height_at.nd rfl (by walk_at "O") (pe_ix ix_tup (pv 0) pe_int (fun _ _ => rfl)))
      (pss_cons (ps_set (i := 6) sc_height_at.nd rfl (by walk_at "O") (pe_op op_add (pe_op op_mulS (pv 2) (pv 5)) (pe_op op_mulS (pe_op op_mulS (pv 1) (pv 4)) (pv 3))))
      (pss_one (ps_ret (pe_call (ok_lowest T) (hr.mono (by decide)) (by rfl) T.d_lowest.m T.d_lowest.F.kp T.d_lowest.b .nil pass0 (pa_cons (pv 6) (pa_cons (pe_op op_mulS (pv 3) (pv 5)) pa_nil)))))))))), ?_⟩
    have sa := ma.sm
    have sb := mb.sm
    have sc := mc.sm
    have sd := md.sm
    have sp := mp.sm
    have s2 := mp.mulS mc
    have s3 := mb.mulS md
    have hne : b * d ≠ 0 := Int.mul_ne_zero (by omega) (by omega)
    walk_at "Q"
    walk_at "RD"
    walk_at "AUTO"
    walk_at "NX"
    walk_at "Q"
    walk_at "RD"
    walk_at "AUTO"
    walk_at "NX"
    walk_at "Q"
    walk_at "RD"
    walk_at "AUTO"
    walk_at "NX"
    walk_at "Q"
    walk_at "RD"
    walk_at "AUTO"
    walk_at "NX"
    walk_at "Q"
    walk_at "RD"
    walk_at "AUTO"
    walk_at "NX"
    delta sp_lowest
    walk_at "AUTO"
    exact fun q H' x y s e L => k q H' x y s e L
theorem sc_line_by : FnScope ["place", "height", "other", "second", "steps", "gain", "start", "rise"] ["place", "height", "other", "second"] (defScope s_line_by) := by walk_at "SC"
def sp_line_by : Sp := fun vs H Q _ => ∃ p0 h0 p1 h1 : Int, vs = [.int p0, .int h0, .int p1, .int h1] ∧ p0 ≠ p1 ∧ p0.natAbs ≤ 10 ^ 30 ∧ h0.natAbs ≤ 10 ^ 30 ∧ p1.natAbs ≤ 10 ^ 30 ∧ h1.natAbs ≤ 10 ^ 30 ∧
  ∀ q H' x y z v, Same H H' → H' q = some (.tup [.int x, .int y, .int z, .int v]) → LowT (h0 * (p1 - p0) - p0 * (h1 - h0)) (p1 - p0) x y → LowT (h1 - h0) (p1 - p0) z v → Q (.ref q) H'
theorem ok_line_by (T : Tx K mg) : FnOk P w K mg base CX0 3 T.f_line_by T.fd_line_by ["place", "height", "other", "second"] sp_line_by := by
  refine T.d_line_by.F.ok sc_line_by (fun vs H Q E h => ?_) (fun cdv A outer s H vs Q E hr h => ?_)
  · obtain ⟨p0, h0, p1, h1, rfl, hne, b0, b1, b2, b3, k⟩ := h
    rfl
  · obtain ⟨p0, h0, p1, h1, rfl, hne, b0, b1, b2, b3, k⟩ := h
    have hu := hu_of hr
    refine ⟨_, (pss_cons (ps_set (i := 4) sc_line_by.nd rfl (by walk_at "O") (pe_op op_sub (pv 2) (pv 0)))
      (pss_cons (ps_set (i := 5) sc_line_by.nd rfl (by walk_at "O") (pe_op op_sub (pv 3) (pv 1)))
      (pss_cons (ps_set (i := 6) sc_line_by.nd rfl (by walk_at "O") (pe_call (ok_lowest T) (hr.mono (by decide)) (by rfl) T.d_lowest.m T.d_lowest.F.kp T.d_lowest.b .nil pass0 (pa_cons (pe_op op_sub (pe_op op_mulS (pv 1) (pv 4)) (pe_op op_mulS (pv 0) (pv 5))) (pa_cons (pv 4) pa_nil))))
      (pss_cons (ps_set (i := 7) sc_line_by.nd rfl (by walk_at "O") (pe_call (ok_lowest T) (hr.mono (by decide)) (by rfl) T.d_lowest.m T.d_lowest.F.kp T.d_lowest.b .nil pass0 (pa_cons (pv 5) (pa_cons (pv 4) pa_nil))))
      (pss_one (ps_ret (pe_tupS (pa_cons (pe_ix ix_tup (pv 6) pe_int (fun _ _ => rfl)) (pa_cons (pe_ix ix_tup (pv 6) pe_int (fun _ _ => rfl)) (pa_cons (pe_ix ix_tup (pv 7) pe_int (fun _ _ => rfl)) (pa_cons (pe_ix ix_tup (pv 7) pe_int (fun _ _ => rfl)) pa_nil))))))))))), ?_⟩
    have hs : p1 - p0 ≠ 0 := by omega
    have m1 : Sm (p1 - p0) := Sm.of (n := 10 ^ 31) (by omega) (by decide +kernel)
    have m2 : Sm (h1 - h0) := Sm.of (n := 10 ^ 31) (by omega) (by decide +kernel)
    have m3 : Sm p0 := Sm.of b0 (by decide +kernel)
    have m4 : Sm h0 := Sm.of b1 (by decide +kernel)
    walk_at "Q"
    walk_at "RD"
    walk_at "NX"
    walk_at "Q"
    walk_at "RD"
    walk_at "NX"
    walk_at "Q"
    delta sp_lowest
    walk_at "AUTO"
    intro q1 H1 x y s1 e1 Lw1
    walk_at "NX"
    walk_at "Q"
    delta sp_lowest
    walk_at "AUTO"
    intro q2 H2 z v s2 e2 Lw2
    walk_at "NX"
    walk_at "RD"
    walk_at "AUTO"
    exact k _ _ _ _ _ _ (by walk_at "SAME6") (by assumption) Lw1 Lw2
theorem sc_passes : FnScope ["throw", "gate", "height", "foot", "head"] ["throw", "gate"] (defScope s_passes) := by walk_at "SC"
def sp_passes (K : PySem.W.Frag) : Sp := fun vs H Q _ => ∃ (p g : Addr) (a b c d pl f h : Int), vs = [.ref p, .ref g] ∧ SqT K H p [.int a, .int b, .int c, .int d] ∧ SqT K H g [.int pl, .int f, .int h] ∧ 0 < b ∧ 0 < d ∧ a.natAbs ≤ 10 ^ 15 ∧ b.natAbs ≤ 10 ^ 15 ∧ c.natAbs ≤ 10 ^ 15 ∧ d.natAbs ≤ 10 ^ 15 ∧ pl.natAbs ≤ 10 ^ 15 ∧ f.natAbs ≤ 10 ^ 15 ∧ h.natAbs ≤ 10 ^ 15 ∧ ∀ H', Same H H' → Q (.bl (decide (Pas a b c d pl f h))) H'
theorem ok_passes (T : Tx K mg) : FnOk P w K mg base CX0 4 T.f_passes T.fd_passes ["throw", "gate"] (sp_passes K) := by
  refine T.d_passes.F.ok sc_passes (fun vs H Q E h => ?_) (fun cdv A outer s H vs Q E hr h => ?_)
  · obtain ⟨p, g, a, b, c, d, pl, f, h, rfl, hp, hg, hb, hd, b1, b2, b3, b4, b5, b6, b7, k⟩ := h
    rfl
  · obtain ⟨p, g, a, b, c, d, pl, f, h, rfl, hp, hg, hb, hd, b1, b2, b3, b4, b5, b6, b7, k⟩ := h
    have hu := hu_of hr
    refine ⟨_, (pss_cons (ps_set (i := 2) sc_passes.nd rfl (by walk_at "O") (pe_call (ok_height_at T) (hr.mono (by decide)) (by rfl) T.d_height_at.m T.d_height_at.F.kp T.d_height_at.b .nil pass0 (pa_cons (pv 0) (pa_cons (pe_ix ix_tup (pv 1) pe_int (fun _ _ => rfl)) pa_nil))))
      (pss_cons (ps_set (i := 3) sc_passes.nd rfl (by walk_at "O") (pe_tupS (pa_cons (pe_ix ix_tup (pv 1) pe_int (fun _ _ => rfl)) (pa_cons pe_int pa_nil))))
      (pss_cons (ps_set (i := 4) sc_passes.nd rfl (by walk_at "O") (pe_tupS (pa_cons (pe_ix ix_tup (pv 1) pe_int (fun _ _ => rfl)) (pa_cons pe_int pa_nil))))
      (pss_one (ps_ret (pe_and (pe_cmpR op_le (pe_call (ok_compare T) (hr.mono (by decide)) (by rfl) T.d_compare.m T.d_compare.F.kp T.d_compare.b .nil pass0 (pa_cons (pv 3) (pa_cons (pv 2) pa_nil))) pe_int (nomark _)) (pe_one (pe_cmpR op_le (pe_call (ok_compare T) (hr.mono (by decide)) (by rfl) T.d_compare.m T.d_compare.F.kp T.d_compare.b .nil pass0 (pa_cons (pv 2) (pa_cons (pv 4) pa_nil))) pe_int (nomark _))))))))), ?_⟩
    have md : ∀ {i : Int}, i.natAbs ≤ 10 ^ 15 → Md i := fun h => Nat.le_trans h (by decide +kernel)
    walk_at "Q"
    delta sp_height_at
    walk_at "AUTO"
    refine ⟨a, b, c, d, hp, hb, hd, md b1, md b2, md b3, md b4, md b5, fun q H1 x y s1 e1 L => ?_⟩
    have bd := abs_mul_le b2 b4
    have bt1 := abs_mul_le b1 b4
    have bt2 := abs_mul_le (abs_mul_le b5 b3) b2
    have bt : (a * d + pl * c * b).natAbs ≤ 10 ^ 46 := by omega
    have sx : Sm x := Sm.of (Nat.le_trans L.absx bt) (by decide +kernel)
    have sy : Sm y := Sm.of (Nat.le_trans L.absy bd) (by decide +kernel)
    have sf : Sm f := Sm.of b6 (by decide +kernel)
    have sh : Sm h := Sm.of b7 (by decide +kernel)
    have s0 : Sm 1 := by unfold Sm; decide +kernel
    have E := L.eq
    have hy := L.pos
    have hbd : 0 < b * d := Int.mul_pos hb hd
    walk_at "NX"
    walk_at "Q"
    walk_at "RD"
    walk_at "AUTO"
    walk_at "NX"
    walk_at "Q"
    walk_at "RD"
    walk_at "AUTO"
    walk_at "NX"
    delta sp_compare
    walk_at "AUTO"
    refine ⟨f, 1, (by walk_at "SQT4"), x, y, (by walk_at "SQT4"), sf, s0, sx, sy, ?_⟩
    have c1 : (cmpI (f * y) (x * 1) ≤ 0) ↔ f * (b * d) ≤ a * d + pl * c * b := by
      rw [Int.mul_one]
      have e : cmpI (f * y) x ≤ 0 ↔ f * y ≤ x := by unfold cmpI; split <;> (try split) <;> omega
      rw [e]
      generalize a * d + pl * c * b = t at *
      generalize b * d = u at *
      exact frac_le hy hbd E
    have c2 : (cmpI (x * 1) (h * y) ≤ 0) ↔ a * d + pl * c * b ≤ h * (b * d) := by
      rw [Int.mul_one]
      have e : cmpI x (h * y) ≤ 0 ↔ x ≤ h * y := by unfold cmpI; split <;> (try split) <;> omega
      rw [e]
      generalize a * d + pl * c * b = t at *
      generalize b * d = u at *
      exact frac_ge hy hbd E
    by_cases g1 : f * (b * d) ≤ a * d + pl * c * b
    · rw [if_pos (decide_eq_true (c1.mpr g1))]
      refine ⟨x, y, (by walk_at "SQT4"), h, 1, (by walk_at "SQT4"), sx, sy, sh, s0, ?_⟩
      have e : decide (cmpI (x * 1) (h * y) ≤ 0) = decide (Pas a b c d pl f h) := by
        unfold Pas
        simp only [c2, g1, true_and]
      rw [e]
      exact k _ (by walk_at "SAME5")
    · rw [if_neg (by simp only [decide_eq_true_eq]; exact fun z => g1 (c1.mp z))]
      have e : decide (Pas a b c d pl f h) = false := by
        unfold Pas
        simp only [g1, false_and, decide_false]
      rw [e] at k
      exact k _ (by walk_at "SAME5")
theorem sc_passes_all : FnScope ["throw", "gates"] ["throw", "gates"] (defScope s_passes_all) := by walk_at "SC"
def sp_passes_all (K : PySem.W.Frag) : Sp := fun vs H Q _ => ∃ (q l : Addr) (t : Thr) (as : List Addr) (gs : List G), vs = [.ref q, .ref l] ∧ SqT K H q t.vs ∧ SqL K H l (as.map V.ref) ∧ GsAt H as gs ∧ OkT t ∧ gs.length ≤ 1000 ∧ (∀ g ∈ gs, OkG g) ∧ ∀ H', Same H H' → Q (.bl (decide (∀ g ∈ gs, t.pas g))) H'
theorem ok_passes_all (T : Tx K mg) : FnOk P w K mg base CX0 5 T.f_passes_all T.fd_passes_all ["throw", "gates"] (sp_passes_all K) := by
  refine T.d_passes_all.F.ok sc_passes_all (fun vs H Q E h => ?_) (fun cdv A outer s H vs Q E hr h => ?_)
  · obtain ⟨q, l, t, as, gs, rfl, hq, hl, ga, ot, hz, ok, k⟩ := h
    rfl
  · obtain ⟨q, l, t, as, gs, rfl, hq, hl, ga, ot, hz, ok, k⟩ := h
    have hu := hu_of hr
    refine ⟨_, (pss_one (ps_ret (pe_callB (call_all (by rfl)) (by rfl) T.z_all bo_all (pa_cons (pe_comp rfl (⟨rfl, by decide +kernel, by decide +kernel, by decide +kernel, rfl, by decide +kernel, by with_unfolding_all rfl, by rfl, by rfl, by rfl⟩ : CompSt _ _ "gate" ["throw"] [0]) (pi_list (pv 1)) (fun _ _ _ _  => (pe_call (ok_passes T) (hr.mono (by decide)) (by rfl) T.d_passes.m T.d_passes.F.kp T.d_passes.b .nil pass0 (pa_cons (pv 1) (pa_cons (pv 0) pa_nil)))) (fun _ _ _ _ => pts_nil)) pa_nil)))), ?_⟩
    delta iList
    walk_at "AUTO"
    intro D nD
    refine comp_gmap (F := fun _ v g => v = V.bl (decide (t.pas g))) (fun _ _ _ _ _ h => h) (fun _ _ _ _ _ _ h => h) hl ga nD hz ?_ ?_
    · intro v g H1 R hg s1 ev hR
      obtain ⟨p1, p2, p3, p4, p5⟩ := ok g hg
      delta Option.join_some
      walk_at "AUTO"
      unfold sp_passes
      refine ⟨_, _, t.a, t.b, t.c, t.d, g.p, g.f, g.h, rfl, s1.tup hq, SqT.of ev, ot.b0, ot.d0, Nat.le_trans ot.a1 (by decide), Nat.le_trans ot.b1 (by decide), Nat.le_trans ot.c1 (by decide), Nat.le_trans ot.d1 (by decide), by omega, by omega, by omega, fun H2 s2 => hR _ _ s2 rfl⟩
    · intro H1 ys s1 e1 pr
      have ey := Paired.eq_map pr
      subst ey
      refine ⟨gs.map fun g => decide (t.pas g), SqL.of (by rw [e1, List.map_map]; rfl), ?_⟩
      have e : (gs.map fun g => decide (t.pas g)).all id = decide (∀ g ∈ gs, t.pas g) := by
        rw [Bool.eq_iff_iff]
        simp
      rw [e]
      exact k _ s1
theorem sc_foot_to_head : FnScope ["earlier", "later"] ["earlier", "later"] (defScope s_foot_to_head) := by walk_at "SC"
def sp_foot_to_head (K : PySem.W.Frag) : Sp := fun vs H Q _ => ∃ (a b : Addr) (x y : G), vs = [.ref a, .ref b] ∧ SqT K H a (G.vs x) ∧ SqT K H b (G.vs y) ∧ OkG x ∧ OkG y ∧ ∀ D H', Same H H' → H' D = some (.tup [.int (y.h - x.f), .int (y.p - x.p)]) → Q (.ref D) H'
theorem ok_foot_to_head (T : Tx K mg) : FnOk P w K mg base CX0 1 T.f_foot_to_head T.fd_foot_to_head ["earlier", "later"] (sp_foot_to_head K) := by
  refine T.d_foot_to_head.F.ok sc_foot_to_head (fun vs H Q E h => ?_) (fun cdv A outer s H vs Q E hr h => ?_)
  · obtain ⟨a, b, x, y, rfl, ha, hb, o1, o2, k⟩ := h
    rfl
  · obtain ⟨a, b, x, y, rfl, ha, hb, o1, o2, k⟩ := h
    have hu := hu_of hr
    refine ⟨_, (pss_one (ps_ret (pe_tupS (pa_cons (pe_op op_sub (pe_ix ix_tup (pv 1) pe_int (fun _ _ => rfl)) (pe_ix ix_tup (pv 0) pe_int (fun _ _ => rfl))) (pa_cons (pe_op op_sub (pe_ix ix_tup (pv 1) pe_int (fun _ _ => rfl)) (pe_ix ix_tup (pv 0) pe_int (fun _ _ => rfl))) pa_nil))))), ?_⟩
    obtain ⟨p1, p2, p3, p4, p5⟩ := id o1
    obtain ⟨q1, q2, q3, q4, q5⟩ := id o2
    walk_at "RD"
    walk_at "AUTO"
    exact k _ _ hs he
theorem sc_tightest_pair : FnScope ["ordered", "pair", "index", "earlier", "later"] ["ordered"] (defScope s_tightest_pair) := by walk_at "SC"
structure PairAt (H : Hp) (D : Addr) (gs : List G) (ax ay : Addr) (x y : G) : Prop where
  eD : H D = some (.tup [.ref ax, .ref ay])
  ex : H ax = some (.tup (G.vs x))
  ey : H ay = some (.tup (G.vs y))
  hx : x ∈ gs
  hy : y ∈ gs
  lt : x.p < y.p
theorem PairAt.same {H H' : Hp} {D : Addr} {gs : List G} {ax ay : Addr} {x y : G} (h : PairAt H D gs ax ay x y) (s : Same H H') : PairAt H' D gs ax ay x y := ⟨s.get h.eD, s.get h.ex, s.get h.ey, h.hx, h.hy, h.lt⟩
def sp_tightest_pair (K : PySem.W.Frag) : Sp := fun vs H Q _ => ∃ (l : Addr) (as : List Addr) (gs : List G), vs = [.ref l] ∧ SqL K H l (as.map V.ref) ∧ GsAt H as gs ∧ Asc gs ∧ 2 ≤ gs.length ∧ gs.length ≤ 1000 ∧ (∀ g ∈ gs, OkG g) ∧ ∀ D H' ax ay x y, Same H H' → PairAt H' D gs ax ay x y → (∀ x' ∈ gs, ∀ y' ∈ gs, x'.p < y'.p → LeR x y x' y') → Q (.ref D) H'
def LeAll (gs : List G) (x y : G) (i j : Nat) : Prop := ∀ i' j' u v, i' < j' → gs[i']? = some u → gs[j']? = some v → (i' < i ∨ (i' = i ∧ j' < j)) → LeR x y u v
def Wt1 (l : Addr) (gs : List G) (H : Hp) : Nat → St → Hp → Prop := fun i σ H' => ∃ D ax ay x y o1 o2 o3, σ = [some (.ref l), some (.ref D), o1, o2, o3] ∧ Same H H' ∧ PairAt H' D gs ax ay x y ∧ LeAll gs x y i 0
def Wt2 (l ea : Addr) (gs : List G) (H : Hp) (i : Nat) : Nat → St → Hp → Prop := fun j σ H' => ∃ D ax ay x y o3, σ = [some (.ref l), some (.ref D), some (.int (i : Int)), some (.ref ea), o3] ∧ Same H H' ∧ PairAt H' D gs ax ay x y ∧ LeAll gs x y i (i + 1 + j)
theorem ok_tightest_pair (T : Tx K mg) : FnOk P w K mg base CX0 2 T.f_tightest_pair T.fd_tightest_pair ["ordered"] (sp_tightest_pair K) := by
  refine T.d_tightest_pair.F.ok sc_tightest_pair (fun vs H Q E h => ?_) (fun cdv A outer s H vs Q E hr h => ?_)
  · obtain ⟨l, as, gs, rfl, hl, ga, ha, l2, hz, ok, k⟩ := h
    rfl
  · obtain ⟨l, as, gs, rfl, hl, ga, ha, l2, hz, ok, k⟩ := h
    have hu := hu_of hr
    refine ⟨_, (pss_cons (ps_set (i := 1) sc_tightest_pair.nd rfl (by walk_at "O") (pe_tupS (pa_cons (pe_ix ix_list (pv 0) pe_int (fun _ _ => rfl)) (pa_cons (pe_ix ix_list (pv 0) pe_int (fun _ _ => rfl)) pa_nil))))
      (pss_cons (ps_for PassesOwn.never rfl (pi_enum (by rfl) T.z_enumerate (pa_cons (pv 0) pa_nil)) (pg_tup (n := 2) rfl (pgs_cons (pg_name (i := 2) sc_tightest_pair.nd rfl (by walk_at "O")) (pgs_cons (pg_name (i := 3) sc_tightest_pair.nd rfl (by walk_at "O")) pgs_nil)))
        (pss_one (ps_for PassesOwn.never rfl (pi_list (pe_slice sl_listS (pv 0) (po_some (pe_op op_add (pv 2) pe_int)) po_none)) (pg_name (i := 4) sc_tightest_pair.nd rfl (by walk_at "O"))
            (pss_one (ps_if (pt_cmpR op_lt (pe_call (ok_compare T) (hr.mono (by decide)) (by rfl) T.d_compare.m T.d_compare.F.kp T.d_compare.b .nil pass0 (pa_cons (pe_call (ok_foot_to_head T) (hr.mono (by decide)) (by rfl) T.d_foot_to_head.m T.d_foot_to_head.F.kp T.d_foot_to_head.b .nil pass0 (pa_cons (pv 3) (pa_cons (pv 4) pa_nil))) (pa_cons (pe_call (ok_foot_to_head T) (hr.mono (by decide)) (by rfl) T.d_foot_to_head.m T.d_foot_to_head.F.kp T.d_foot_to_head.b .nil pass0 (pa_cons (pe_ix ix_tup (pv 1) pe_int (fun _ _ => rfl)) (pa_cons (pe_ix ix_tup (pv 1) pe_int (fun _ _ => rfl)) pa_nil))) pa_nil))) pe_int (nomark _)) (pss_one (ps_set (i := 1) sc_tightest_pair.nd rfl (by walk_at "O") (pe_tupS (pa_cons (pv 3) (pa_cons (pv 4) pa_nil)))))
                pss_nil)))))
      (pss_one (ps_ret (pv 1))))), ?_⟩
    have la := ga.len
    have h0 : 0 < gs.length := by omega
    have h1 : 1 < gs.length := by omega
    obtain ⟨a0, f0, e0⟩ := ga.get (List.getElem?_eq_getElem h0)
    obtain ⟨a1, f1, e1⟩ := ga.get (List.getElem?_eq_getElem h1)
    have i0 : atI (as.map V.ref) 0 = some (V.ref a0) := atI_refs (i := 0) f0
    have i1 : atI (as.map V.ref) 1 = some (V.ref a1) := atI_refs (i := 1) f1
    walk_at "RD"
    walk_at "AUTO"
    refine ⟨_, rfl, l, rfl, ⟨_, hs.seq hl⟩, for_enum (xs := as.map V.ref) (Wt1 l gs H') ⟨p, a0, a1, gs[0], gs[1], none, none, none, rfl, Same.refl _, ⟨he, hs.get e0, hs.get e1, List.getElem_mem h0, List.getElem_mem h1, asc_lt ha (List.getElem?_eq_getElem h0) (List.getElem?_eq_getElem h1) (by omega)⟩, fun i' j' u v _ _ _ hh => by omega⟩ (fun i σ H1 _ ⟨_, _, _, _, _, _, _, _, _, s1, _, _⟩ => (hs.trans s1).seq hl) ?_ ?_⟩
    · rintro i vv σ H1 pp H2 hx ⟨D, ax, ay, x, y, o1, o2, o3, rfl, s1, pa, le⟩ hn s2 e2
      have hi : i < gs.length := by
        have := (List.getElem?_eq_some_iff.mp hx).1
        rw [List.length_map] at this
        omega
      obtain ⟨ea, fe, ee⟩ := ga.get (List.getElem?_eq_getElem hi)
      have ex : vv = V.ref ea := by
        rw [List.getElem?_map, fe] at hx
        exact (Option.some.inj hx).symm
      subst ex
      have s02 := hs.trans (s1.trans s2)
      have gu := List.getElem?_eq_getElem hi
      generalize hu0 : gs[i] = u at ee gu
      have ou := ok u (List.mem_of_getElem? gu)
      delta gTup gCons gNil
      refine ⟨_, SqT.of e2, rfl, _, _, rfl, _, _, rfl, rfl, ?_⟩
      refine ⟨_, rfl, _, rfl, _, _, rfl, rfl, _, rfl, l, rfl, _, s02.seq hl, fun S H3 nS s3 eS => ?_⟩
      rw [show (i : Int) + 1 = ((i + 1 : Nat) : Int) by omega, cutV_from, ← List.map_drop] at eS
      have s03 := s02.trans s3
      refine ⟨S, rfl, ⟨_, SqL.of eS⟩, for_list (xs := (as.drop (i + 1)).map V.ref) (Wt2 l ea gs H3 i) ⟨D, ax, ay, x, y, o3, rfl, Same.refl _, (pa.same s2).same s3, fun i' j' u' v' h1 h2 h3 h4 => le i' j' u' v' h1 h2 h3 (by omega)⟩ (fun j σ H4 _ ⟨_, _, _, _, _, _, _, s4, _, _⟩ => SqL.of (s4.get eS)) ?_ ?_⟩
      · rintro j vv σ H4 hx ⟨D, ax, ay, x, y, o3, rfl, s4, pa, le⟩
        have hj : i + 1 + j < gs.length := by
          have := (List.getElem?_eq_some_iff.mp hx).1
          rw [List.length_map, List.length_drop] at this
          omega
        obtain ⟨la', fl, el⟩ := ga.get (List.getElem?_eq_getElem hj)
        have ex : vv = V.ref la' := by
          rw [List.getElem?_map, List.getElem?_drop, fl] at hx
          exact (Option.some.inj hx).symm
        subst ex
        have s04 := s03.trans s4
        have gv := List.getElem?_eq_getElem hj
        generalize hv0 : gs[i + 1 + j] = v at el gv
        have ov := ok v (List.mem_of_getElem? gv)
        have eu4 := s04.get ee
        have ev4 := s04.get el
        have ex4 := pa.ex
        have ey4 := pa.ey
        have eD4 := pa.eD
        have luv := asc_lt ha gu gv (by omega)
        have lxy := pa.lt
        have ox := ok x pa.hx
        have oy := ok y pa.hy
        walk_at "RD"
        walk_at "AUTO"
        unfold sp_foot_to_head sp_compare
        refine ⟨_, _, u, v, rfl, SqT.of eu4, SqT.of ev4, ou, ov, fun D1 H5 s5 e5 => ?_⟩
        walk_at "AUTO"
        refine ⟨_, _, x, y, rfl, (by walk_at "SQT4"), (by walk_at "SQT4"), ox, oy, fun D2 H6 s6 e6 => ?_⟩
        obtain ⟨p1, p2, p3, p4, p5⟩ := id ou
        obtain ⟨q1, q2, q3, q4, q5⟩ := id ov
        obtain ⟨r1, r2, r3, r4, r5⟩ := id ox
        obtain ⟨t1, t2, t3, t4, t5⟩ := id oy
        have w1 : Sm (v.h - u.f) := Sm.of (n := 10 ^ 10) (by omega) (by decide +kernel)
        have w2 : Sm (v.p - u.p) := Sm.of (n := 10 ^ 10) (by omega) (by decide +kernel)
        have w3 : Sm (y.h - x.f) := Sm.of (n := 10 ^ 10) (by omega) (by decide +kernel)
        have w4 : Sm (y.p - x.p) := Sm.of (n := 10 ^ 10) (by omega) (by decide +kernel)
        refine ⟨_, _, _, _, _, _, rfl, SqT.of (s6.get e5), SqT.of e6, w1, w2, w3, w4, ?_⟩
        have ec : cmpI ((v.h - u.f) * (y.p - x.p)) ((y.h - x.f) * (v.p - u.p)) < 0 ↔ ¬ LeR x y u v := by
          unfold cmpI LeR
          rw [Int.not_le]
          split <;> (try split) <;> omega
        have s46 := s5.trans s6
        refine ⟨_, rfl, ?_⟩
        by_cases hb : LeR x y u v
        · rw [if_neg (fun z => ec.mp (of_decide_eq_true z) hb)]
          refine ⟨D, ax, ay, x, y, _, rfl, s4.trans s46, pa.same s46, fun i' j' u' v' h1 h2 h3 h4 => ?_⟩
          rcases (by omega : (i' < i ∨ (i' = i ∧ j' < i + 1 + j)) ∨ (i' = i ∧ j' = i + 1 + j)) with z | ⟨rfl, rfl⟩
          · exact le i' j' u' v' h1 h2 h3 z
          · cases gu.symm.trans h2
            cases gv.symm.trans h3
            exact hb
        · rw [if_pos (decide_eq_true (ec.mpr hb))]
          walk_at "AUTO"
          have lt' : LeR u v x y := by
            unfold LeR at hb ⊢
            rw [Int.not_le] at hb
            exact Int.le_of_lt hb
          refine ⟨p, ea, la', u, v, _, rfl, s4.trans (s46.trans hs), ⟨he, hs.get (s46.get eu4), hs.get (s46.get ev4), List.mem_of_getElem? gu, List.mem_of_getElem? gv, luv⟩, fun i' j' u' v' h1 h2 h3 h4 => ?_⟩
          rcases (by omega : (i' < i ∨ (i' = i ∧ j' < i + 1 + j)) ∨ (i' = i ∧ j' = i + 1 + j)) with z | ⟨rfl, rfl⟩
          · exact LeR.trans luv lxy (asc_lt ha h2 h3 h1) lt' (le i' j' u' v' h1 h2 h3 z)
          · cases gu.symm.trans h2
            cases gv.symm.trans h3
            exact LeR.refl u v
      · rintro σ H4 ⟨D, ax, ay, x, y, o3, rfl, s4, pa, le⟩
        refine ⟨D, ax, ay, x, y, _, _, _, rfl, s1.trans (s2.trans (s3.trans s4)), pa, fun i' j' u' v' h1 h2 h3 h4 => ?_⟩
        have hj' := (List.getElem?_eq_some_iff.mp h3).1
        rw [List.length_map, List.length_drop] at le
        exact le i' j' u' v' h1 h2 h3 (by omega)
    · rintro σ H1 ⟨D, ax, ay, x, y, o1, o2, o3, rfl, s1, pa, le⟩
      rw [List.length_map] at le
      walk_at "RD"
      refine k D H1 ax ay x y (hs.trans s1) pa fun x' hx' y' hy' lt' => ?_
      obtain ⟨i', hi', rfl⟩ := List.getElem_of_mem hx'
      obtain ⟨j', hj', rfl⟩ := List.getElem_of_mem hy'
      have q1 := List.getElem?_eq_getElem hi'
      have q2 := List.getElem?_eq_getElem hj'
      exact le i' j' _ _ (idx_of_lt ha q1 q2 lt') q1 q2 (by omega)
theorem sc_steepest_found : FnScope ["ordered", "pair", "foot_place", "head_place", "throw"] ["ordered"] (defScope s_steepest_found) := by walk_at "SC"
def sp_steepest_found (K : PySem.W.Frag) : Sp := fun vs H Q _ => ∃ (l : Addr) (as : List Addr) (gs : List G), vs = [.ref l] ∧ SqL K H l (as.map V.ref) ∧ GsAt H as gs ∧ Asc gs ∧ 2 ≤ gs.length ∧ gs.length ≤ 1000 ∧ (∀ g ∈ gs, OkG g) ∧ (∀ H', Same H H' → ¬ NoBar gs → Q .non H') ∧ ∀ D H' q t x y, Same H H' → FoundAt H' D gs q t x y → Q (.ref D) H'
theorem ok_steepest_found (T : Tx K mg) : FnOk P w K mg base CX0 6 T.f_steepest_found T.fd_steepest_found ["ordered"] (sp_steepest_found K) := by
  refine T.d_steepest_found.F.ok sc_steepest_found (fun vs H Q E h => ?_) (fun cdv A outer s H vs Q E hr h => ?_)
  · obtain ⟨l, as, gs, rfl, hl, ga, ha, l2, hz, ok, kn, k⟩ := h
    rfl
  · obtain ⟨l, as, gs, rfl, hl, ga, ha, l2, hz, ok, kn, k⟩ := h
    have hu := hu_of hr
    refine ⟨_, (pss_cons (ps_set (i := 1) sc_steepest_found.nd rfl (by walk_at "O") (pe_call (ok_tightest_pair T) (hr.mono (by decide)) (by rfl) T.d_tightest_pair.m T.d_tightest_pair.F.kp T.d_tightest_pair.b .nil pass0 (pa_cons (pv 0) pa_nil)))
      (pss_cons (ps_set (i := 2) sc_steepest_found.nd rfl (by walk_at "O") (pe_ix ix_tup (pe_ix ix_tup (pv 1) pe_int (fun _ _ => rfl)) pe_int (fun _ _ => rfl)))
      (pss_cons (ps_set (i := 3) sc_steepest_found.nd rfl (by walk_at "O") (pe_ix ix_tup (pe_ix ix_tup (pv 1) pe_int (fun _ _ => rfl)) pe_int (fun _ _ => rfl)))
      (pss_cons (ps_set (i := 4) sc_steepest_found.nd rfl (by walk_at "O") (pe_call (ok_line_by T) (hr.mono (by decide)) (by rfl) T.d_line_by.m T.d_line_by.F.kp T.d_line_by.b .nil pass0 (pa_cons (pv 2) (pa_cons (pe_ix ix_tup (pe_ix ix_tup (pv 1) pe_int (fun _ _ => rfl)) pe_int (fun _ _ => rfl)) (pa_cons (pv 3) (pa_cons (pe_ix ix_tup (pe_ix ix_tup (pv 1) pe_int (fun _ _ => rfl)) pe_int (fun _ _ => rfl)) pa_nil))))))
      (pss_cons (ps_if (pt_not (pt_val (pe_call (ok_passes_all T) (hr.mono (by decide)) (by rfl) T.d_passes_all.m T.d_passes_all.F.kp T.d_passes_all.b .nil pass0 (pa_cons (pv 4) (pa_cons (pv 0) pa_nil))))) (pss_one (ps_ret pe_non))
        pss_nil)
      (pss_one (ps_ret (pe_tupS (pa_cons (pv 4) (pa_cons (pv 2) (pa_cons (pv 3) pa_nil))))))))))), ?_⟩
    walk_at "RD"
    walk_at "AUTO"
    unfold sp_tightest_pair
    refine ⟨_, as, gs, rfl, hl, ga, ha, l2, hz, ok, fun D H1 ax ay x y s1 pa le => ?_⟩
    have eD := pa.eD
    have ex := pa.ex
    have ey := pa.ey
    have lxy := pa.lt
    have ox := ok x pa.hx
    have oy := ok y pa.hy
    obtain ⟨r1, r2, r3, r4, r5⟩ := id ox
    obtain ⟨t1, t2, t3, t4, t5⟩ := id oy
    walk_at "AUTO"
    unfold sp_line_by
    refine ⟨x.p, x.f, y.p, y.h, rfl, by omega, by omega, by omega, by omega, by omega, fun q H2 a b c d s2 e2 L1 L2 => ?_⟩
    have lo := line_thr lxy L1 L2
    have ot := line_ok (by omega) (by omega) (by omega) (by omega) L1 L2
    walk_at "AUTO"
    unfold sp_passes_all
    refine ⟨_, _, ⟨a, b, c, d⟩, as, gs, rfl, SqT.of e2, (s1.trans s2).seq hl, ga.same (s1.trans s2), ot, hz, ok, fun H3 s3 => ?_⟩
    by_cases hb : ∀ g ∈ gs, (⟨a, b, c, d⟩ : Thr).pas g
    · rw [decide_eq_true hb]
      have e3 := s3.get e2
      walk_at "AUTO"
      exact k _ _ q ⟨a, b, c, d⟩ x y (s1.trans (s2.trans (s3.trans hs))) ⟨he, hs.get e3, ot, hb, pa.hx, pa.hy, lxy, lo.2.1, lo.2.2⟩
    · rw [decide_eq_false hb]
      walk_at "AUTO"
      exact kn _ (s1.trans (s2.trans s3)) (not_nobar_of_least ha ok pa.hx pa.hy lxy le fun z => hb fun g hg => (lo.1 g).mpr (z g hg))
theorem sc_bar_told : FnScope ["gates"] ["gates"] (defScope s_bar_told) := by walk_at "SC"
def sp_bar_told (K : PySem.W.Frag) : Sp := fun vs H Q _ => ∃ (l : Addr) (as : List Addr) (gs sg : List G), vs = [.ref l] ∧ SqL K H l (as.map V.ref) ∧ GsAt H as gs ∧ (gs.map G.p).Nodup ∧ gs.length ≤ 40 ∧ (∀ g ∈ gs, OkG g) ∧ sg.Perm gs ∧ Asc sg ∧ ¬ NoBar sg ∧ ∀ D H', Same H H' → BarAt H' D gs → Q (.ref D) H'
theorem ok_bar_told (T : Tx K mg) : FnOk P w K mg base CX0 4 T.f_bar_told T.fd_bar_told ["gates"] (sp_bar_told K) := by
  refine T.d_bar_told.F.ok sc_bar_told (fun vs H Q E h => ?_) (fun cdv A outer s H vs Q E hr h => ?_)
  · obtain ⟨l, as, gs, sg, rfl, hl, ga, nd, h40, ok, hp, ha, nb, k⟩ := h
    rfl
  · obtain ⟨l, as, gs, sg, rfl, hl, ga, nd, h40, ok, hp, ha, nb, k⟩ := h
    have hu := hu_of hr
    refine ⟨_, (pss_one (ps_ret (pe_tupS (pa_cons pe_str (pa_cons (pe_call (ok_first_three T) (hr.mono (by decide)) (by rfl) T.d_first_three.m T.d_first_three.F.kp T.d_first_three.b .nil pass0 (pa_cons (pv 0) pa_nil)) pa_nil))))), ?_⟩
    walk_at "RD"
    walk_at "AUTO"
    unfold sp_first_three
    refine ⟨_, as, gs, rfl, hl, ga, nd, h40, ok, fun H1 s1 hf => absurd rfl (first_of_bar hp ha nb hf), fun D H1 t s1 e1 ne hf => ?_⟩
    walk_at "AUTO"
    exact k _ _ (s1.trans hs) ⟨D, t, he, hs.get e1, ne, hf⟩
theorem sc_steepest_throw : FnScope ["gates", "found"] ["gates"] (defScope s_steepest_throw) := by walk_at "SC"
def sp_steepest_throw (K : PySem.W.Frag) : Sp := fun vs H Q _ => ∃ (l : Addr) (as : List Addr) (gs : List G), vs = [.ref l] ∧ SqL K H l (as.map V.ref) ∧ GsAt H as gs ∧ (gs.map G.p).Nodup ∧ 2 ≤ gs.length ∧ gs.length ≤ 40 ∧ (∀ g ∈ gs, OkG g) ∧ ∀ D H', Same H H' → EdgeAt true H' D gs → Q (.ref D) H'
theorem ok_steepest_throw (T : Tx K mg) : FnOk P w K mg base CX0 7 T.f_steepest_throw T.fd_steepest_throw ["gates"] (sp_steepest_throw K) := by
  refine T.d_steepest_throw.F.ok sc_steepest_throw (fun vs H Q E h => ?_) (fun cdv A outer s H vs Q E hr h => ?_)
  · obtain ⟨l, as, gs, rfl, hl, ga, nd, l2, h40, ok, k⟩ := h
    rfl
  · obtain ⟨l, as, gs, rfl, hl, ga, nd, l2, h40, ok, k⟩ := h
    have hu := hu_of hr
    refine ⟨_, (pss_cons (ps_set (i := 1) sc_steepest_throw.nd rfl (by walk_at "O") (pe_call (ok_steepest_found T) (hr.mono (by decide)) (by rfl) T.d_steepest_found.m T.d_steepest_found.F.kp T.d_steepest_found.b .nil pass0 (pa_cons (pe_callB call_sortedG (by rfl) T.z_sorted bo_sorted (pa_cons (pv 0) pa_nil)) pa_nil)))
      (pss_cons (ps_if (pt_cmpR op_isN (pv 1) pe_non (nomark _)) (pss_one (ps_ret (pe_call (ok_bar_told T) (hr.mono (by decide)) (by rfl) T.d_bar_told.m T.d_bar_told.F.kp T.d_bar_told.b .nil pass0 (pa_cons (pv 0) pa_nil))))
        pss_nil)
      (pss_one (ps_ret (pe_tupS (pa_cons pe_str (pa_cons (pe_ix ix_tup (pv 1) pe_int (fun _ _ => rfl)) (pa_cons (pe_ix ix_tup (pv 1) pe_int (fun _ _ => rfl)) (pa_cons (pe_ix ix_tup (pv 1) pe_int (fun _ _ => rfl)) pa_nil))))))))), ?_⟩
    walk_at "RD"
    walk_at "AUTO"
    intro D1 H1 as1 sg nD s1 e1 ga1 hp ha
    have lg := hp.length_eq
    have ok1 : ∀ g ∈ sg, OkG g := fun g hg => ok g (hp.mem_iff.mp hg)
    unfold sp_steepest_found
    refine ⟨_, as1, sg, rfl, SqL.of e1, ga1, ha, by omega, by omega, ok1, fun H2 s2 nb => ?_, fun D H2 q t x y s2 fa => ?_⟩
    · walk_at "AUTO"
      unfold sp_bar_told
      exact ⟨_, as, gs, sg, rfl, (s1.trans s2).seq hl, ga.same (s1.trans s2), nd, h40, ok, hp, ha, nb, fun D H3 s3 b => k D H3 (s1.trans (s2.trans s3)) (.bar b)⟩
    · have eD := fa.eD
      walk_at "AUTO"
      exact k _ _ (s1.trans (s2.trans hs)) (.throw q t x y he (hs.get fa.eq) fa.ok (fun g hg => fa.all g (hp.mem_iff.mpr hg)) (hp.mem_iff.mp fa.hx) (hp.mem_iff.mp fa.hy) fa.lt fa.tx fa.ty)
theorem sc_turned_over : FnScope ["gate"] ["gate"] (defScope s_turned_over) := by walk_at "SC"
def sp_turned_over (K : PySem.W.Frag) : Sp := fun vs H Q _ => ∃ (a : Addr) (g : G), vs = [.ref a] ∧ SqT K H a (G.vs g) ∧ ∀ D H', Same H H' → H' D = some (.tup (G.vs (turnG g))) → Q (.ref D) H'
theorem ok_turned_over (T : Tx K mg) : FnOk P w K mg base CX0 1 T.f_turned_over T.fd_turned_over ["gate"] (sp_turned_over K) := by
  refine T.d_turned_over.F.ok sc_turned_over (fun vs H Q E h => ?_) (fun cdv A outer s H vs Q E hr h => ?_)
  · obtain ⟨a, g, rfl, ha, k⟩ := h
    rfl
  · obtain ⟨a, g, rfl, ha, k⟩ := h
    have hu := hu_of hr
    refine ⟨_, (pss_one (ps_ret (pe_tupS (pa_cons (pe_ix ix_tup (pv 0) pe_int (fun _ _ => rfl)) (pa_cons (pe_un un_neg (pe_ix ix_tup (pv 0) pe_int (fun _ _ => rfl))) (pa_cons (pe_un un_neg (pe_ix ix_tup (pv 0) pe_int (fun _ _ => rfl))) pa_nil)))))), ?_⟩
    walk_at "RD"
    walk_at "AUTO"
    exact k _ _ hs he
theorem sc_turned_throw : FnScope ["throw"] ["throw"] (defScope s_turned_throw) := by walk_at "SC"
def sp_turned_throw (K : PySem.W.Frag) : Sp := fun vs H Q _ => ∃ (a : Addr) (t : Thr), vs = [.ref a] ∧ SqT K H a t.vs ∧ ∀ D H', Same H H' → H' D = some (.tup (turnT t).vs) → Q (.ref D) H'
theorem ok_turned_throw (T : Tx K mg) : FnOk P w K mg base CX0 1 T.f_turned_throw T.fd_turned_throw ["throw"] (sp_turned_throw K) := by
  refine T.d_turned_throw.F.ok sc_turned_throw (fun vs H Q E h => ?_) (fun cdv A outer s H vs Q E hr h => ?_)
  · obtain ⟨a, t, rfl, ha, k⟩ := h
    rfl
  · obtain ⟨a, t, rfl, ha, k⟩ := h
    have hu := hu_of hr
    refine ⟨_, (pss_one (ps_ret (pe_tupS (pa_cons (pe_un un_neg (pe_ix ix_tup (pv 0) pe_int (fun _ _ => rfl))) (pa_cons (pe_ix ix_tup (pv 0) pe_int (fun _ _ => rfl)) (pa_cons (pe_un un_neg (pe_ix ix_tup (pv 0) pe_int (fun _ _ => rfl))) (pa_cons (pe_ix ix_tup (pv 0) pe_int (fun _ _ => rfl)) pa_nil))))))), ?_⟩
    walk_at "RD"
    walk_at "AUTO"
    exact k _ _ hs he
theorem sc_flattest_throw : FnScope ["gates", "found"] ["gates"] (defScope s_flattest_throw) := by walk_at "SC"
def sp_flattest_throw (K : PySem.W.Frag) : Sp := fun vs H Q _ => ∃ (l : Addr) (as : List Addr) (gs : List G), vs = [.ref l] ∧ SqL K H l (as.map V.ref) ∧ GsAt H as gs ∧ (gs.map G.p).Nodup ∧ 2 ≤ gs.length ∧ gs.length ≤ 40 ∧ (∀ g ∈ gs, OkG g) ∧ ∀ D H', Same H H' → EdgeAt false H' D gs → Q (.ref D) H'
theorem gs_of_paired {H : Hp} : ∀ {ys : List V} {gs : List G}, Paired (fun v g => ∃ p, v = V.ref p ∧ H p = some (.tup (G.vs (turnG g)))) ys gs → ∃ as : List Addr, ys = as.map V.ref ∧ GsAt H as (gs.map turnG)
  | _, _, .nil => ⟨[], rfl, .nil⟩
  | _, _, .cons ⟨p, e1, e2⟩ t => by
    obtain ⟨as, e, ga⟩ := gs_of_paired t
    exact ⟨p :: as, by rw [e1, e]; rfl, .cons e2 ga⟩
theorem ok_flattest_throw (T : Tx K mg) : FnOk P w K mg base CX0 7 T.f_flattest_throw T.fd_flattest_throw ["gates"] (sp_flattest_throw K) := by
  refine T.d_flattest_throw.F.ok sc_flattest_throw (fun vs H Q E h => ?_) (fun cdv A outer s H vs Q E hr h => ?_)
  · obtain ⟨l, as, gs, rfl, hl, ga, nd, l2, h40, ok, k⟩ := h
    rfl
  · obtain ⟨l, as, gs, rfl, hl, ga, nd, l2, h40, ok, k⟩ := h
    have hu := hu_of hr
    refine ⟨_, (pss_cons (ps_set (i := 1) sc_flattest_throw.nd rfl (by walk_at "O") (pe_call (ok_steepest_found T) (hr.mono (by decide)) (by rfl) T.d_steepest_found.m T.d_steepest_found.F.kp T.d_steepest_found.b .nil pass0 (pa_cons (pe_comp rfl (⟨rfl, by decide +kernel, by decide +kernel, by decide +kernel, rfl, by decide +kernel, by with_unfolding_all rfl, by rfl, by rfl, by rfl⟩ : CompSt _ _ "gate" [] []) (pi_list (pe_callB call_sortedG (by rfl) T.z_sorted bo_sorted (pa_cons (pv 0) pa_nil))) (fun _ _ _ _  => (pe_call (ok_turned_over T) (hr.mono (by decide)) (by rfl) T.d_turned_over.m T.d_turned_over.F.kp T.d_turned_over.b .nil pass0 (pa_cons (pv 0) pa_nil))) (fun _ _ _ _ => pts_nil)) pa_nil)))
      (pss_cons (ps_if (pt_cmpR op_isN (pv 1) pe_non (nomark _)) (pss_one (ps_ret (pe_call (ok_bar_told T) (hr.mono (by decide)) (by rfl) T.d_bar_told.m T.d_bar_told.F.kp T.d_bar_told.b .nil pass0 (pa_cons (pv 0) pa_nil))))
        pss_nil)
      (pss_one (ps_ret (pe_tupS (pa_cons pe_str (pa_cons (pe_call (ok_turned_throw T) (hr.mono (by decide)) (by rfl) T.d_turned_throw.m T.d_turned_throw.F.kp T.d_turned_throw.b .nil pass0 (pa_cons (pe_ix ix_tup (pv 1) pe_int (fun _ _ => rfl)) pa_nil)) (pa_cons (pe_ix ix_tup (pv 1) pe_int (fun _ _ => rfl)) (pa_cons (pe_ix ix_tup (pv 1) pe_int (fun _ _ => rfl)) pa_nil))))))))), ?_⟩
    delta iList
    walk_at "AUTO"
    intro D1 H1 as1 sg nD s1 e1 ga1 hp ha
    have lg := hp.length_eq
    have ok1 : ∀ g ∈ sg, OkG g := fun g hg => ok g (hp.mem_iff.mp hg)
    refine ⟨⟨_, SqL.of e1⟩, fun C nC => ?_⟩
    refine comp_gmap (F := fun H v g => ∃ p, v = V.ref p ∧ H p = some (.tup (G.vs (turnG g)))) (fun _ _ _ _ s ⟨p, e1, e2⟩ => ⟨p, e1, s.get e2⟩) (fun H v g xs ys hD ⟨p, e1, e2⟩ => ⟨p, e1, by rw [upd_ne (ne_of e2 hD (by intro z; cases z))]; exact e2⟩) (SqL.of e1) ga1 nC (by omega) ?_ ?_
    · intro v g H2 R hg s2 ev hR
      delta Option.join_some
      walk_at "AUTO"
      unfold sp_turned_over
      exact ⟨_, g, rfl, SqT.of ev, fun D H3 s3 e3 => hR _ _ s3 ⟨D, rfl, e3⟩⟩
    intro H2 ys s2 e2 pr
    obtain ⟨as2, rfl, ga2⟩ := gs_of_paired pr
    unfold sp_steepest_found
    refine ⟨_, as2, sg.map turnG, rfl, SqL.of e2, ga2, turn_asc ha, by rw [List.length_map]; omega, by rw [List.length_map]; omega, fun g hg => ?_, fun H3 s3 nb => ?_, fun D H3 q t x y s3 fa => ?_⟩
    · obtain ⟨g', hg', rfl⟩ := List.mem_map.mp hg
      exact turn_ok (ok1 g' hg')
    · walk_at "AUTO"
      unfold sp_bar_told
      have s13 := s1.trans (s2.trans s3)
      exact ⟨_, as, gs, sg, rfl, s13.seq hl, ga.same s13, nd, h40, ok, hp, ha, fun z => nb (turn_nobar z), fun D H4 s4 b => k D H4 (s13.trans s4) (.bar b)⟩
    · have eD := fa.eD
      obtain ⟨x, hx, rfl⟩ := List.mem_map.mp fa.hx
      obtain ⟨y, hy, rfl⟩ := List.mem_map.mp fa.hy
      walk_at "AUTO"
      unfold sp_turned_throw
      refine ⟨_, t, rfl, SqT.of fa.eq, fun D2 H4 s4 e4 => ?_⟩
      have eD4 := s4.get eD
      walk_at "AUTO"
      exact k _ _ (s1.trans (s2.trans (s3.trans (s4.trans hs)))) (.throw D2 (turnT t) x y he (hs.get e4) (turn_okT fa.ok) (fun g hg => turn_pas.mpr (fa.all _ (List.mem_map.mpr ⟨g, hp.mem_iff.mpr hg, rfl⟩))) (hp.mem_iff.mp hx) (hp.mem_iff.mp hy) fa.lt (turn_gap fa.tx) (turn_gap fa.ty))
theorem sc_check_gate : FnScope ["gate", "number"] ["gate"] (defScope s_check_gate) := by walk_at "SC"
def sp_check_gate {K : PySem.W.Frag} {mg : Str → Option Value} (T : Tx K mg) : Sp := fun vs H Q E => ∃ (q : Addr) (p f h : Int), vs = [.ref q] ∧ H q = some (.tup [.int p, .int f, .int h]) ∧ (∀ e, gateE p f h = some e → E (T.err e) none H) ∧ (gateE p f h = none → Q .non H)
theorem ok_check_gate (T : Tx K mg) : FnOk P w K mg base (CXE P w) 1 T.f_check_gate T.fd_check_gate ["gate"] (sp_check_gate T) := by
  refine T.d_check_gate.F.okX sc_check_gate (fun vs H Q E h => ?_) (fun cdv A outer s H vs Q E hr h => ?_)
  · obtain ⟨q, p, f, h, rfl, hq, kE, k⟩ := h
    rfl
  · obtain ⟨q, p, f, h, rfl, hq, kE, k⟩ := h
    have hu := hu_of hr
    refine ⟨_, (pss_cons (ps_if (pt_cmpR op_gt (pe_ix ix_tup (pv 0) pe_int (fun _ _ => rfl)) (pe_ix ix_tup (pv 0) pe_int (fun _ _ => rfl)) (nomark _)) (pss_one (ps_raise madeE rfl T.e_UpsideDown (by rfl) T.m_UpsideDown (pa_cons pe_str pa_nil)))
        pss_nil)
      (pss_one (ps_for ownE rfl (pi_tup (pv 0)) (pg_name (i := 1) sc_check_gate.nd rfl (by walk_at "O"))
        (pss_one (ps_if (pw_or (pt_cmpR op_lt (pv 1) (pe_glob (v := .int (-1000)) (by rfl) T.k_LEAST T.r_LEAST) (nomark _)) (pw_or1 (pt_cmpR op_gt (pv 1) (pe_glob (v := .int (1000)) (by rfl) T.k_GREATEST T.r_GREATEST) (nomark _)))).pt (pss_one (ps_raise madeE rfl T.e_OutOfBounds (by rfl) T.m_OutOfBounds (pa_cons pe_str pa_nil)))
            pss_nil))))), ?_⟩
    walk_at "RD"
    walk_at "AUTO"
    unfold gateE at kE k
    by_cases hf : h < f
    · rw [if_pos (decide_eq_true hf)]
      rw [if_pos hf] at kE
      exact ⟨by decide, kE _ rfl⟩
    rw [if_neg (fun z => hf (of_decide_eq_true z))]
    rw [if_neg hf] at kE k
    refine ⟨_, rfl, q, rfl, ⟨_, SqT.of hq⟩, for_tup (xs := [V.int p, V.int f, V.int h]) (fun i σ H' => ∃ o, σ = [some (.ref q), o] ∧ H' = H ∧ ∀ x ∈ [p, f, h].take i, InB x) ⟨none, rfl, rfl, fun _ z => absurd z (by simp)⟩ (fun _ _ _ _ ⟨_, _, e, _⟩ => SqT.of (e ▸ hq)) ?_ ?_⟩
    · rintro i v σ H1 hx ⟨o, rfl, rfl, hi⟩
      have hil : i < [p, f, h].length := (List.getElem?_eq_some_iff.mp hx).1
      have ev : v = V.int [p, f, h][i] := by
        have hx : ([p, f, h].map V.int)[i]? = some v := hx
        rw [List.getElem?_map, List.getElem?_eq_getElem hil] at hx
        exact (Option.some.inj hx).symm
      subst ev
      have hmem := List.getElem_mem hil
      have htk : [p, f, h].take (i + 1) = [p, f, h].take i ++ [[p, f, h][i]] := List.take_succ_eq_append_getElem hil
      generalize [p, f, h][i] = x at *
      walk_at "RD"
      by_cases h1 : x < -1000
      · rw [if_pos (decide_eq_true h1)]
        rw [if_neg (fun z => by simp at hmem; rcases hmem with rfl | rfl | rfl <;> omega)] at kE
        exact ⟨by decide, kE _ rfl⟩
      rw [if_neg (fun z => h1 (of_decide_eq_true z))]
      by_cases h2 : 1000 < x
      · rw [if_pos (decide_eq_true h2)]
        rw [if_neg (fun z => by simp at hmem; rcases hmem with rfl | rfl | rfl <;> omega)] at kE
        exact ⟨by decide, kE _ rfl⟩
      rw [if_neg (fun z => h2 (of_decide_eq_true z))]
      refine ⟨⟨_, rfl⟩, fun y hy => ?_⟩
      rw [htk] at hy
      rcases List.mem_append.mp hy with z | z
      · exact hi y z
      · rw [List.mem_singleton.mp z]
        exact ⟨by omega, by omega⟩
    · rintro σ H1 ⟨o, rfl, rfl, hi⟩
      exact k (if_pos ⟨hi p (by simp), hi f (by simp), hi h (by simp)⟩)
theorem sc_check_places : FnScope ["places"] ["places"] (defScope s_check_places) := by walk_at "SC"
def sp_check_places {K : PySem.W.Frag} {mg : Str → Option Value} (T : Tx K mg) : Sp := fun vs H Q E => ∃ (l : Addr) (ps : List Int), vs = [.ref l] ∧ SqL K H l (ps.map V.int) ∧ ps.length < 4000 ∧ (badL ps → ∀ H', Same H H' → E (T.err .badlist) none H') ∧ (¬ badL ps → ∀ H', Same H H' → Q .non H')
theorem ok_check_places (T : Tx K mg) : FnOk P w K mg base (CXE P w) 1 T.f_check_places T.fd_check_places ["places"] (sp_check_places T) := by
  refine T.d_check_places.F.okX sc_check_places (fun vs H Q E h => ?_) (fun cdv A outer s H vs Q E hr h => ?_)
  · obtain ⟨l, ps, rfl, hl, h4, kE, k⟩ := h
    rfl
  · obtain ⟨l, ps, rfl, hl, h4, kE, k⟩ := h
    have hu := hu_of hr
    refine ⟨_, (pss_cons (ps_if (pt_cmpR op_eq (pe_callB call_len_seq (by rfl) T.z_len bo_len (pa_cons (pv 0) pa_nil)) pe_int (nomark _)) (pss_one (ps_raise madeE rfl T.e_BadList (by rfl) T.m_BadList (pa_cons pe_str pa_nil)))
        pss_nil)
      (pss_cons (ps_if (pt_cmpR op_gt (pe_callB call_len_seq (by rfl) T.z_len bo_len (pa_cons (pv 0) pa_nil)) (pe_glob (v := .int (40)) (by rfl) T.k_MOST_GATES T.r_MOST_GATES) (nomark _)) (pss_one (ps_raise madeE rfl T.e_BadList (by rfl) T.m_BadList (pa_cons pe_str pa_nil)))
        pss_nil)
      (pss_one (ps_if (pt_cmpR op_lt (pe_callB call_lenS (by rfl) T.z_len bo_len (pa_cons (pe_callTy (call_setI (by rfl)) (by rfl) T.z_set bo_set (pa_cons (pv 0) pa_nil)) pa_nil)) (pe_callB call_len_seq (by rfl) T.z_len bo_len (pa_cons (pv 0) pa_nil)) (nomark _)) (pss_one (ps_raise madeE rfl T.e_BadList (by rfl) T.m_BadList (pa_cons pe_str pa_nil)))
        pss_nil)))), ?_⟩
    walk_at "RD"
    refine ⟨_, .inl hl, ?_⟩
    rw [List.length_map]
    by_cases h0 : ps.length = 0
    · rw [if_pos (decide_eq_true (by omega))]
      exact ⟨by decide, kE (.inl (List.length_eq_zero_iff.mp h0)) _ (Same.refl _)⟩
    rw [if_neg (fun z => h0 (by have := of_decide_eq_true z; omega))]
    refine ⟨_, .inl hl, ?_⟩
    rw [List.length_map]
    by_cases h1 : 40 < ps.length
    · rw [if_pos (decide_eq_true (by omega))]
      exact ⟨by decide, kE (.inr (.inl h1)) _ (Same.refl _)⟩
    rw [if_neg (fun z => h1 (by have := of_decide_eq_true z; omega))]
    refine ⟨ps, hl, h4, fun D H1 S n n1 s1 e1 le iff => ⟨S, n, e1, _, .inl (s1.seq hl), ?_⟩⟩
    rw [List.length_map]
    by_cases h2 : n < ps.length
    · rw [if_pos (decide_eq_true (by omega))]
      exact ⟨by decide, kE (.inr (.inr fun z => by have := iff.mpr z; omega)) _ s1⟩
    rw [if_neg (fun z => h2 (by have := of_decide_eq_true z; omega))]
    refine k (fun z => ?_) _ s1
    rcases z with z | z | z
    · rw [z] at h0; exact h0 rfl
    · exact h1 z
    · exact z (iff.mp (by omega))
theorem sc_Beach_init : FnScope ["self"] ["self"] (defScope s_Beach_init) := by walk_at "SC"
def sp_Beach_init {K : PySem.W.Frag} {mg : Str → Option Value} (T : Tx K mg) : Sp := fun vs H Q _ => ∃ (b dx : Addr), vs = [.ref b] ∧ H b = some (.ins T.C_Beach dx []) ∧ ∀ H' S P, H S = none → H P = none → (∀ a u, a ≠ b → H a = some u → H' a = some u) → Bch T.C_Beach H' b S P [S, P] [] [] → Q .non H'
theorem mk_beach {K : PySem.W.Frag} {mg : Str → Option Value} {T : Tx K mg} {H : Hp} {Q : Addr → Hp → Prop} {E : XK} (k : ∀ b S P H', H b = none → H S = none → H P = none → Same H H' → Bch T.C_Beach H' b S P [S, P] [] [] → Q b H') :
    ∀ x dx, H x = none → H dx = none → dx ≠ x → sp_Beach_init T [V.ref x] (upd (upd H dx (.own x)) x (.ins T.C_Beach dx [])) (fun v H2 => v = V.non ∧ Q x H2) E := fun x dx nx nd hd => by
  refine ⟨x, dx, rfl, upd_same, fun H' S P nS nP kp hb => ⟨rfl, k x S P H' nx ?_ ?_ (fun a u e => kp a u (ne_of_none e nx) ?_) hb⟩⟩
  · have h1 : S ≠ x := fun z => by rw [z, upd_same] at nS; cases nS
    have h2 : S ≠ dx := fun z => by rw [upd_ne h1, z, upd_same] at nS; cases nS
    rwa [upd_ne h1, upd_ne h2] at nS
  · have h1 : P ≠ x := fun z => by rw [z, upd_same] at nP; cases nP
    have h2 : P ≠ dx := fun z => by rw [upd_ne h1, z, upd_same] at nP; cases nP
    rwa [upd_ne h1, upd_ne h2] at nP
  · rw [upd_ne (ne_of_none e nx), upd_ne (ne_of_none e nd)]
    exact e
theorem ok_Beach_init (T : Tx K mg) : FnOk P w K mg base CX0 1 T.f_Beach_init T.fd_Beach_init ["self"] (sp_Beach_init T) := by
  refine T.d_Beach_init.F.ok sc_Beach_init (fun vs H Q E h => ?_) (fun cdv A outer s H vs Q E hr h => ?_)
  · obtain ⟨b, dx, rfl, hb, k⟩ := h
    rfl
  · obtain ⟨b, dx, rfl, hb, k⟩ := h
    have hu := hu_of hr
    refine ⟨_, (pss_cons (ps_fld (pv 0) (pe_lstS pa_nil) rfl)
      (pss_one (ps_fld (pv 0) (pe_lstS pa_nil) rfl))), ?_⟩
    walk_at "RD"
    refine ⟨by decide, fun S H1 nS s1 eS => ⟨_, dx, _, s1.get hb, T.cl_Beach, T.n_Beach_standing, by decide, by decide, fun P H2 nP s2 eP => ?_⟩⟩
    have sb : S ≠ b := ne_of_none hb nS |>.symm
    refine ⟨_, dx, _, s2.get upd_same, T.cl_Beach, T.n_Beach_past, (by show 1 < 1000; decide), ?_⟩
    have nP1 : H1 P = none := by
      have hPb : P ≠ b := fun z => by rw [z, upd_same] at nP; cases nP
      rw [upd_ne hPb] at nP
      exact nP
    have eS2 : H2 S = some (.lst []) := s2.get ((upd_ne sb).trans eS)
    have pb : P ≠ b := (ne_of_none (s1.get hb) nP1).symm
    have ps : P ≠ S := (ne_of_none eS nP1).symm
    refine k _ S P nS (s1.free nP1) (fun a u ha e => ?_) ?_
    · rw [upd_ne ha]
      exact s2.get ((upd_ne ha).trans (s1.get e))
    · refine ⟨⟨dx, upd_same⟩, ⟨[], (upd_ne sb).trans eS2, .nil⟩, ⟨[], (upd_ne pb).trans eP, .nil, fun _ h => absurd h (by simp)⟩, ps.symm, by simp, by simp, ⟨List.Pairwise.nil, fun _ h => absurd h (by simp), by decide⟩, fun _ h => absurd h (by simp), by decide, fun a ha => ?_⟩
      simp at ha
      rcases ha with rfl | rfl
      · exact ⟨_, (upd_ne sb).trans eS2⟩
      · exact ⟨_, (upd_ne pb).trans eP⟩
theorem sc_Beach_has_gate : FnScope ["self", "place"] ["self", "place"] (defScope s_Beach_has_gate) := by walk_at "SC"
def sp_Beach_has_gate {K : PySem.W.Frag} {mg : Str → Option Value} (T : Tx K mg) : Sp := fun vs H Q E => ∃ (b S P : Addr) (ow : List Addr) (gs : List G) (past : List (List G)) (p : Int), vs = [.ref b, .int p] ∧ Bch T.C_Beach H b S P ow gs past ∧ ∀ H', Same H H' → Q (.bl (decide (p ∈ places gs))) H'
theorem ok_Beach_has_gate (T : Tx K mg) : FnOk P w K mg base CX0 1 T.f_Beach_has_gate T.fd_Beach_has_gate ["self", "place"] (sp_Beach_has_gate T) := by
  refine T.d_Beach_has_gate.F.ok sc_Beach_has_gate (fun vs H Q E h => ?_) (fun cdv A outer s H vs Q E hr h => ?_)
  · obtain ⟨b, S, P, ow, gs, past, p, rfl, hb, k⟩ := h
    rfl
  · obtain ⟨b, S, P, ow, gs, past, p, rfl, hb, k⟩ := h
    have hu := hu_of hr
    refine ⟨_, (pss_one (ps_ret (pe_cmpR op_in_seq (pv 1) (pe_comp rfl (⟨rfl, by decide +kernel, by decide +kernel, by decide +kernel, rfl, by decide +kernel, by with_unfolding_all rfl, by rfl, by rfl, by rfl⟩ : CompSt _ _ "gate" [] []) (pi_list (pe_fld (pv 0) rfl)) (fun _ _ _ _  => (pe_ix (ix_tupK (K := K) rfl) (pv 0) pe_int (fun _ _ => rfl))) (fun _ _ _ _ => pts_nil)) (by with_unfolding_all rfl)))), ?_⟩
    obtain ⟨dx, eb⟩ := hb.at_
    obtain ⟨as, es, ga⟩ := hb.st
    delta iList
    refine ⟨_, dx, _, eb, T.cl_Beach, T.n_Beach_standing, _, rfl, ?_⟩
    refine ⟨_, rfl, ⟨_, SqL.of es⟩, fun D nD => ?_⟩
    refine comp_filter_map (fun _ => true) (fun g => V.int g.p) (SqL.of es) ga nD (by have := hb.std.len; omega) (fun v g H R hg s1 ev hR => ?_) (fun v g H R hg s1 ev hR => ?_) fun H1 s1 e1 => ?_
    · exact hR
    · delta Option.join_some
      exact ⟨_, SqT.of ev, _, rfl, hR⟩
    · rw [flt_true, show (gs.map fun g => V.int g.p) = (places gs).map V.int from by rw [List.map_map]; rfl] at e1
      refine ⟨_, .inl (SqL.of e1), rfl, flat_int _, ?_⟩
      rw [inV_int]
      exact k _ s1
theorem sc_Beach_gate_at : FnScope ["self", "place", "gate"] ["self", "place"] (defScope s_Beach_gate_at) := by walk_at "SC"
def sp_Beach_gate_at {K : PySem.W.Frag} {mg : Str → Option Value} (T : Tx K mg) : Sp := fun vs H Q E => ∃ (b S P : Addr) (ow : List Addr) (gs : List G) (past : List (List G)) (p : Int), vs = [.ref b, .int p] ∧ Bch T.C_Beach H b S P ow gs past ∧ (p ∉ places gs → E (T.err .nogate) none H) ∧ ∀ D g, gateOf gs p = some g → H D = some (.tup (G.vs g)) → Q (.ref D) H
theorem ok_Beach_gate_at (T : Tx K mg) : FnOk P w K mg base (CXE P w) 1 T.f_Beach_gate_at T.fd_Beach_gate_at ["self", "place"] (sp_Beach_gate_at T) := by
  refine T.d_Beach_gate_at.F.okX sc_Beach_gate_at (fun vs H Q E h => ?_) (fun cdv A outer s H vs Q E hr h => ?_)
  · obtain ⟨b, S, P, ow, gs, past, p, rfl, hb, kE, k⟩ := h
    rfl
  · obtain ⟨b, S, P, ow, gs, past, p, rfl, hb, kE, k⟩ := h
    have hu := hu_of hr
    refine ⟨_, (pss_cons (ps_for ownE rfl (pi_list (pe_fld (pv 0) rfl)) (pg_name (i := 2) sc_Beach_gate_at.nd rfl (by walk_at "O"))
        (pss_one (ps_if (pt_cmpR op_eq (pe_ix ix_tup (pv 2) pe_int (fun _ _ => rfl)) (pv 1) (nomark _)) (pss_one (ps_ret (pv 2)))
            pss_nil)))
      (pss_one (ps_raise madeE rfl T.e_NoGate (by rfl) T.m_NoGate (pa_cons pe_str pa_nil)))), ?_⟩
    obtain ⟨dx, eb⟩ := hb.at_
    obtain ⟨as, es, ga⟩ := hb.st
    have las := ga.len
    delta iList
    refine ⟨_, rfl, b, T.C_Beach, dx, _, _, rfl, eb, T.cl_Beach, T.n_Beach_standing, rfl, S, rfl, ⟨_, SqL.of es⟩, for_list (xs := as.map V.ref) (fun i σ H' => ∃ o, σ = [some (.ref b), some (.int p), o] ∧ H' = H ∧ ∀ g ∈ gs.take i, g.p ≠ p) ⟨none, rfl, rfl, fun _ z => absurd z (by simp)⟩ (fun _ _ _ _ ⟨_, _, e, _⟩ => SqL.of (e ▸ es)) ?_ ?_⟩
    · rintro i v σ H1 hx ⟨o, rfl, rfl, hn⟩
      have hi : i < gs.length := by
        have := (List.getElem?_eq_some_iff.mp hx).1
        rw [List.length_map] at this
        omega
      obtain ⟨a, ha, ea⟩ := ga.get (List.getElem?_eq_getElem hi)
      have ex : v = V.ref a := by
        rw [List.getElem?_map, ha] at hx
        exact (Option.some.inj hx).symm
      subst ex
      have hm := List.getElem_mem hi
      have htk : gs.take (i + 1) = gs.take i ++ [gs[i]] := List.take_succ_eq_append_getElem hi
      generalize gs[i] = g at *
      walk_at "RD"
      refine ⟨_, SqT.of ea, _, rfl, rfl, ?_⟩
      by_cases hp : g.p = p
      · rw [if_pos (decide_eq_true (by rw [hp]))]
        exact k a g (hp ▸ gateOf_eq hb.std.asc hm) ea
      · rw [if_neg (fun z => hp (V.int.inj (of_decide_eq_true z)))]
        refine ⟨⟨_, rfl⟩, fun y hy => ?_⟩
        rw [htk] at hy
        rcases List.mem_append.mp hy with z | z
        · exact hn y z
        · rw [List.mem_singleton.mp z]
          exact hp
    · rintro σ H1 ⟨o, rfl, rfl, hn⟩
      walk_at "RD"
      refine ⟨by decide, kE fun z => ?_⟩
      obtain ⟨g, hg, e⟩ := List.mem_map.mp z
      exact hn g (by rw [List.length_map, las, List.take_length]; exact hg) e
theorem sc_Beach_do_deed : FnScope ["self", "place", "instead", "others"] ["self", "place", "instead"] (defScope s_Beach_do_deed) := by walk_at "SC"
def sp_Beach_do_deed {K : PySem.W.Frag} {mg : Str → Option Value} (T : Tx K mg) : Sp := fun vs H Q E => ∃ (b S P : Addr) (ow : List Addr) (gs : List G) (past : List (List G)) (p : Int) (l : Addr) (ls : List Addr) (o : List G), vs = [.ref b, .int p, .ref l] ∧ Bch T.C_Beach H b S P ow gs past ∧ l ∉ ow ∧ H l = some (.lst (ls.map V.ref)) ∧ GsAt H ls o ∧ (∀ g ∈ o, g.p = p) ∧ Std (put1 gs p o) ∧ (300 ≤ past.length → E (T.err .deeds) none H) ∧ (past.length < 300 → ∀ H' S' ow' (D : Addr), Kp b P H H' → Bch T.C_Beach H' b S' P ow' (put1 gs p o) (past ++ [gs]) → (∀ a ∈ ow', a ∈ ow ∨ H a = none) → Q .non H')
theorem ok_Beach_do_deed (T : Tx K mg) : FnOk P w K mg base (CXE P w) 1 T.f_Beach_do_deed T.fd_Beach_do_deed ["self", "place", "instead"] (sp_Beach_do_deed T) := by
  refine T.d_Beach_do_deed.F.okX sc_Beach_do_deed (fun vs H Q E h => ?_) (fun cdv A outer s H vs Q E hr h => ?_)
  · obtain ⟨b, S, P, ow, gs, past, p, l, ls, o, rfl, hb, hlo, el, go, hop, std, kE, k⟩ := h
    rfl
  · obtain ⟨b, S, P, ow, gs, past, p, l, ls, o, rfl, hb, hlo, el, go, hop, std, kE, k⟩ := h
    have hu := hu_of hr
    refine ⟨_, (pss_cons (ps_if (pt_cmpR op_ge (pe_callB call_len_seq (by rfl) T.z_len bo_len (pa_cons (pe_fld (pv 0) rfl) pa_nil)) (pe_glob (v := .int (300)) (by rfl) T.k_MOST_DEEDS T.r_MOST_DEEDS) (nomark _)) (pss_one (ps_raise madeE rfl T.e_DeedsFull (by rfl) T.m_DeedsFull (pa_cons pe_str pa_nil)))
        pss_nil)
      (pss_cons (ps_setComp (i := 3) rfl sc_Beach_do_deed.nd rfl (Or.inl rfl) (⟨rfl, by decide +kernel, by decide +kernel, by decide +kernel, rfl, by decide +kernel, by with_unfolding_all rfl, by rfl, by rfl, by rfl⟩ : CompSt _ _ "gate" ["place"] [1]) (pi_list (pe_fld (pv 0) rfl)) (fun _ _ _ _  => (pv 0)) (fun _ _ _ _ => (pts_one (pt_cmpR op_ne (pe_ix (ix_tupK (K := K) rfl) (pv 0) pe_int (fun _ _ => rfl)) (pv 1) (nomark _)))))
      (pss_cons (ps_expr (pe_append (pe_fld (pv 0) rfl) (pe_fld (pv 0) rfl)))
      (pss_one (ps_fld (pv 0) (pe_callB call_sortedG (by rfl) T.z_sorted bo_sorted (pa_cons (pe_op op_catS (pv 3) (pv 2)) pa_nil)) rfl))))), ?_⟩
    obtain ⟨dx, eb⟩ := hb.at_
    obtain ⟨as, es, ga⟩ := hb.st
    obtain ⟨ps, ep, pr, hps⟩ := hb.pa
    have lp := Paired.length pr
    walk_at "Q"
    walk_at "RD"
    refine ⟨_, dx, _, eb, T.cl_Beach, T.n_Beach_past, _, rfl, ?_⟩
    refine ⟨_, rfl, _, .inl (SqL.of ep), ?_⟩
    rw [List.length_map, lp]
    by_cases h3 : 300 ≤ past.length
    · rw [if_pos (decide_eq_true (by omega))]
      exact ⟨by decide, kE h3⟩
    · rw [if_neg (fun z => h3 (by have := of_decide_eq_true z; omega))]
      walk_at "NX"
      walk_at "Q"
      delta iList
      refine ⟨_, dx, _, eb, T.cl_Beach, T.n_Beach_standing, _, rfl, _, rfl, ⟨_, SqL.of es⟩, fun D nD => ?_⟩
      refine comp_filter (fun g => !decide (g.p = p)) (SqL.of es) ga nD (by have := hb.std.len; omega) (fun v g H1 R hg s1 ev hR => ?_) fun H1 as1 s1 e1 ga1 => ?_
      · delta Option.join_some
        refine ⟨_, SqT.of ev, _, rfl, rfl, ?_⟩
        rw [show decide (V.int g.p = V.int p) = decide (g.p = p) from decide_eq_decide.mpr ⟨fun z => V.int.inj z, fun z => by rw [z]⟩]
        exact hR
      · have eb1 := s1.get eb
        have ep1 := s1.get ep
        walk_at "NX"
        walk_at "Q"
        walk_at "RD"
        refine ⟨_, dx, _, eb1, T.cl_Beach, T.n_Beach_past, _, rfl, _, rfl, ⟨_, ep1⟩, _, dx, _, eb1, T.cl_Beach, T.n_Beach_standing, _, rfl, _, ep1, by rw [List.length_map, lp, PySem.sizeLine_eq]; omega, ?_⟩
        walk_at "NX"
        walk_at "RD"
        have bP : b ≠ P := ne_of eb ep (by simp)
        have lP : l ≠ P := fun z => hlo (by rw [z]; exact hb.po)
        have DP : D ≠ P := (ne_of_none ep nD).symm
        have el1 : upd H1 P (.lst (ps.map V.ref ++ [V.ref S])) l = some (.lst (ls.map V.ref)) := (upd_ne lP).trans (s1.get el)
        have e1' : upd H1 P (.lst (ps.map V.ref ++ [V.ref S])) D = some (.lst (as1.map V.ref)) := (upd_ne DP).trans e1
        have lo := GsAt.len go
        have l1 := GsAt.len ga1
        have lf := List.length_filter_le (fun g : G => !decide (g.p = p)) gs
        have l40 := hb.std.len
        have lpo := len_put1 (gs := gs) (p := p) (o := o)
        have l40' := std.len
        refine ⟨_, e1', _, el1, by rw [List.length_map, List.length_map, PySem.sizeLine_eq]; omega, fun M H2 n2 s2 e2 => ?_⟩
        have kt : ∀ a xs, H a = some (.tup xs) → H2 a = some (.tup xs) := fun a xs e => s2.get ((upd_ne (hb.nep e fun _ z => by cases z)).trans (s1.get e))
        have kt1 : ∀ a xs, H1 a = some (.tup xs) → H2 a = some (.tup xs) := fun a xs e => s2.get ((upd_ne (ne_of e ep1 (fun z => by cases z))).trans e)
        have ga2 : GsAt H2 (as1 ++ ls) ((gs.filter fun g => !decide (g.p = p)) ++ o) := GsAt.append (ga1.keep kt1) (go.keep kt)
        refine ⟨as1 ++ ls, by rw [List.map_append]; exact SqL.of e2, _, ga2, ?_, by rw [List.length_append]; omega, fun S' H3 as3 gs3 n3 s3 e3 ga3 pm ac => ?_⟩
        · exact ((perm_put1 (gs := gs) (p := p) (o := o)).map G.p).nodup_iff.mp std.nd
        have eg : gs3 = put1 gs p o := asc_perm_eq ac std.asc (pm.trans perm_put1.symm)
        subst eg
        have eP3 : H3 P = some (.lst ((ps ++ [S]).map V.ref)) := by rw [List.map_append]; exact s3.get (s2.get upd_same)
        have eb3 : H3 b = some (.ins T.C_Beach dx [("standing", .ref S), ("past", .ref P)]) := s3.get (s2.get ((upd_ne bP).trans eb1))
        have kp3 : Kp b P H H3 := fun a u h1 h2 e => s3.get (s2.get ((upd_ne h2).trans (s1.get e)))
        have fr : ∀ a, H3 a = none → H a = none := fun a e => by
          cases q : H a with
          | none => rfl
          | some u =>
            by_cases hb' : a = b
            · rw [hb', eb3] at e; cases e
            · by_cases hP : a = P
              · rw [hP, eP3] at e; cases e
              · rw [kp3 a u hb' hP q] at e; cases e
        have n3H : H S' = none := by
          cases q : H S' with
          | none => rfl
          | some u =>
            by_cases hb' : S' = b
            · rw [hb', s2.get ((upd_ne bP).trans eb1)] at n3; cases n3
            · by_cases hP : S' = P
              · rw [hP, s2.get upd_same] at n3; cases n3
              · rw [s2.get ((upd_ne hP).trans (s1.get q))] at n3; cases n3
        have Sb : S' ≠ b := (ne_of_none eb n3H).symm
        have SP' : S' ≠ P := (ne_of_none ep n3H).symm
        have kt3 : ∀ a xs, H a = some (.tup xs) → H3 a = some (.tup xs) := fun a xs e => s3.get (kt a xs e)
        have kb : ∀ a xs, H3 a = some (.tup xs) → upd H3 b (.ins T.C_Beach dx [("standing", .ref S'), ("past", .ref P)]) a = some (.tup xs) := fun a xs e => (upd_ne (ne_of e eb3 (fun z => by cases z))).trans e
        refine ⟨_, dx, _, eb3, T.cl_Beach, T.n_Beach_standing, by show 2 < 1000; decide, k (by omega) _ S' (S' :: S :: ow) S' (kp3.upd (.inl rfl)) ?_ fun a ha => ?_⟩
        · refine ⟨⟨dx, upd_same⟩, ⟨as3, (upd_ne Sb).trans e3, ga3.keep kb⟩, ⟨ps ++ [S], (upd_ne bP.symm).trans eP3, Paired.snoc (Paired.keepM pr fun x y hx q => ?_) ?_, fun a ha => ?_⟩, SP', by simp, by simp [hb.po], std, fun x hx => ?_, by rw [List.length_append]; simp only [List.length_singleton]; omega, fun a ha => ?_⟩
          · have hxo := hps x hx
            obtain ⟨_, ex⟩ := hb.lv x hxo.1
            have hxb : x ≠ b := hb.neb ex fun _ _ _ z => by cases z
            exact q.keep (fun u e => (upd_ne hxb).trans (kp3 x u hxb hxo.2 e)) fun a xs e => kb a xs (kt3 a xs e)
          · have hSb : S ≠ b := hb.neb es fun _ _ _ z => by cases z
            exact hb.st.keep (fun u e => (upd_ne hSb).trans (kp3 S u hSb hb.sp e)) fun a xs e => kb a xs (kt3 a xs e)
          · rcases List.mem_append.mp ha with z | z
            · exact ⟨by simp [(hps a z).1], (hps a z).2⟩
            · rw [List.mem_singleton.mp z]; exact ⟨by simp, hb.sp⟩
          · rcases List.mem_append.mp hx with z | z
            · exact hb.stds x z
            · rw [List.mem_singleton.mp z]; exact hb.std
          · have hown : ∀ a ∈ ow, ∃ xs, upd H3 b (.ins T.C_Beach dx [("standing", .ref S'), ("past", .ref P)]) a = some (.lst xs) := fun a ha => by
              obtain ⟨xs, ex⟩ := hb.lv a ha
              have hxb : a ≠ b := hb.neb ex fun _ _ _ z => by cases z
              by_cases hP : a = P
              · rw [hP]; exact ⟨_, (upd_ne bP.symm).trans eP3⟩
              · exact ⟨xs, (upd_ne hxb).trans (kp3 a _ hxb hP ex)⟩
            rcases List.mem_cons.mp ha with z | z
            · rw [z]; exact ⟨_, (upd_ne Sb).trans e3⟩
            · rcases List.mem_cons.mp z with z | z
              · rw [z]; exact hown S hb.so
              · exact hown a z
        · rcases List.mem_cons.mp ha with z | z
          · rw [z]; exact .inr n3H
          · rcases List.mem_cons.mp z with z | z
            · rw [z]; exact .inl hb.so
            · exact .inl z
theorem sc_Beach_put : FnScope ["self", "place", "foot", "head", "gate"] ["self", "place", "foot", "head"] (defScope s_Beach_put) := by walk_at "SC"
def sp_Beach_put {K : PySem.W.Frag} {mg : Str → Option Value} (T : Tx K mg) : Sp := fun vs H Q E => ∃ (b S P : Addr) (ow : List Addr) (gs : List G) (past : List (List G)) (p f h : Int), vs = [.ref b, .int p, .int f, .int h] ∧ Bch T.C_Beach H b S P ow gs past ∧ (∀ e, putE gs past p f h = some e → ∀ H', Same H H' → E (T.err e) none H') ∧ (putE gs past p f h = none → ∀ H' S' ow' (D : Addr), Kp b P H H' → Bch T.C_Beach H' b S' P ow' (put1 gs p [⟨p, f, h⟩]) (past ++ [gs]) → (∀ a ∈ ow', a ∈ ow ∨ H a = none) → H' D = some (.tup [.int p, .int f, .int h]) → Q (.ref D) H')
theorem ok_Beach_put (T : Tx K mg) : FnOk P w K mg base (CXE P w) 2 T.f_Beach_put T.fd_Beach_put ["self", "place", "foot", "head"] (sp_Beach_put T) := by
  refine T.d_Beach_put.F.okX sc_Beach_put (fun vs H Q E h => ?_) (fun cdv A outer s H vs Q E hr h => ?_)
  · obtain ⟨b, S, P, ow, gs, past, p, f, h', rfl, hb, kE, k⟩ := h
    rfl
  · obtain ⟨b, S, P, ow, gs, past, p, f, h', rfl, hb, kE, k⟩ := h
    have hu := hu_of hr
    refine ⟨_, (pss_cons (ps_if (pt_val (pe_meth (pv 0) T.cl_Beach T.d_Beach_has_gate.mt (ok_Beach_has_gate T) (hr.mono (by decide)) T.d_Beach_has_gate.b .nil pass0 (pa_cons (pv 1) pa_nil))) (pss_one (ps_raise madeE rfl T.e_Taken (by rfl) T.m_Taken (pa_cons pe_str pa_nil)))
        pss_nil)
      (pss_cons (ps_set (i := 4) sc_Beach_put.nd rfl (by walk_at "O") (pe_tupS (pa_cons (pv 1) (pa_cons (pv 2) (pa_cons (pv 3) pa_nil)))))
      (pss_cons (ps_expr (pe_call (ok_check_gate T) (hr.mono (by decide)) (by rfl) T.d_check_gate.m T.d_check_gate.F.kp T.d_check_gate.b .nil passE (pa_cons (pv 4) pa_nil)))
      (pss_cons (ps_if (pt_cmpR op_ge (pe_callB call_len_seq (by rfl) T.z_len bo_len (pa_cons (pe_fld (pv 0) rfl) pa_nil)) (pe_glob (v := .int (40)) (by rfl) T.k_MOST_GATES T.r_MOST_GATES) (nomark _)) (pss_one (ps_raise madeE rfl T.e_BeachFull (by rfl) T.m_BeachFull (pa_cons pe_str pa_nil)))
        pss_nil)
      (pss_cons (ps_expr (pe_meth (pv 0) T.cl_Beach T.d_Beach_do_deed.mt (ok_Beach_do_deed T) (hr.mono (by decide)) T.d_Beach_do_deed.b .nil passE (pa_cons (pv 1) (pa_cons (pe_lstS (pa_cons (pv 4) pa_nil)) pa_nil))))
      (pss_one (ps_ret (pv 4)))))))), ?_⟩
    obtain ⟨dx, eb⟩ := hb.at_
    obtain ⟨as, es, ga⟩ := hb.st
    have las := ga.len
    walk_at "Q"
    walk_at "RD"
    refine ⟨_, _, eb, rfl, b, S, P, ow, gs, past, p, rfl, hb, fun H1 s1 => ?_⟩
    have hb1 := hb.same s1
    by_cases hp : p ∈ places gs
    · refine ⟨_, rfl, ?_⟩
      rw [if_pos (decide_eq_true hp)]
      exact ⟨by decide, kE .taken (by unfold putE; rw [if_pos hp]) _ s1⟩
    refine ⟨_, rfl, ?_⟩
    rw [if_neg (fun z => hp (of_decide_eq_true z))]
    walk_at "NX"
    walk_at "Q"
    walk_at "RD"
    refine ⟨by decide, fun q H2 n2 s2 e2 => ?_⟩
    walk_at "NX"
    walk_at "Q"
    walk_at "RD"
    refine ⟨q, p, f, h', rfl, e2, fun e he => kE e (by unfold putE; rw [if_neg hp, he]; rfl) _ (s1.trans s2), fun hok => ?_⟩
    have hb2 := hb1.same s2
    obtain ⟨dx, eb⟩ := hb2.at_
    obtain ⟨as, es, ga⟩ := hb2.st
    have las := ga.len
    walk_at "NX"
    walk_at "Q"
    walk_at "RD"
    refine ⟨_, dx, _, eb, T.cl_Beach, T.n_Beach_standing, _, rfl, _, rfl, _, .inl (SqL.of es), ?_⟩
    rw [List.length_map, las]
    by_cases h4 : 40 ≤ gs.length
    · rw [if_pos (decide_eq_true (by omega))]
      exact ⟨by decide, kE .full (by unfold putE; rw [if_neg hp, hok, if_pos h4]; rfl) _ (s1.trans s2)⟩
    rw [if_neg (fun z => h4 (by have := of_decide_eq_true z; omega))]
    walk_at "NX"
    walk_at "RD"
    refine ⟨dx, _, eb, rfl, by decide, fun l H3 n3 s3 e3 => ?_⟩
    have hb3 := hb2.same s3
    have ok := gateE_none.mp hok
    refine ⟨b, S, P, ow, gs, past, p, l, [q], [⟨p, f, h'⟩], rfl, hb3, fun z => ?_, e3, .cons (s3.get e2) .nil, fun g hg => by rw [List.mem_singleton.mp hg], hb.std.put ok (by rw [flt_same hp]; omega), fun h3 => kE .deeds (by unfold putE; rw [if_neg hp, hok, if_neg h4, if_pos h3]; rfl) _ (s1.trans (s2.trans s3)), fun h3 H4 S' ow' _ k4 b4 o4 => ?_⟩
    · exact hb2.off n3 z
    · refine k (by unfold putE; rw [if_neg hp, hok, if_neg h4, if_neg (by omega)]; rfl) H4 S' ow' q ((Kp.of (s1.trans (s2.trans s3))).trans k4) b4 (fun a ha => ?_) (hb3.tup k4 (s3.get e2))
      exact (o4 a ha).imp id fun z => (s1.trans (s2.trans s3)).free z
theorem sc_Beach_take : FnScope ["self", "place", "gate"] ["self", "place"] (defScope s_Beach_take) := by walk_at "SC"
def sp_Beach_take {K : PySem.W.Frag} {mg : Str → Option Value} (T : Tx K mg) : Sp := fun vs H Q E => ∃ (b S P : Addr) (ow : List Addr) (gs : List G) (past : List (List G)) (p : Int), vs = [.ref b, .int p] ∧ Bch T.C_Beach H b S P ow gs past ∧ (∀ e, takeE gs past p = some e → ∀ H', Same H H' → E (T.err e) none H') ∧ (∀ g, gateOf gs p = some g → takeE gs past p = none → ∀ H' S' ow' (D : Addr), Kp b P H H' → Bch T.C_Beach H' b S' P ow' (put1 gs p []) (past ++ [gs]) → (∀ a ∈ ow', a ∈ ow ∨ H a = none) → H' D = some (.tup (G.vs g)) → Q (.ref D) H')
theorem ok_Beach_take (T : Tx K mg) : FnOk P w K mg base (CXE P w) 2 T.f_Beach_take T.fd_Beach_take ["self", "place"] (sp_Beach_take T) := by
  refine T.d_Beach_take.F.okX sc_Beach_take (fun vs H Q E h => ?_) (fun cdv A outer s H vs Q E hr h => ?_)
  · obtain ⟨b, S, P, ow, gs, past, p, rfl, hb, kE, k⟩ := h
    rfl
  · obtain ⟨b, S, P, ow, gs, past, p, rfl, hb, kE, k⟩ := h
    have hu := hu_of hr
    refine ⟨_, (pss_cons (ps_set (i := 2) sc_Beach_take.nd rfl (by walk_at "O") (pe_meth (pv 0) T.cl_Beach T.d_Beach_gate_at.mt (ok_Beach_gate_at T) (hr.mono (by decide)) T.d_Beach_gate_at.b .nil passE (pa_cons (pv 1) pa_nil)))
      (pss_cons (ps_expr (pe_meth (pv 0) T.cl_Beach T.d_Beach_do_deed.mt (ok_Beach_do_deed T) (hr.mono (by decide)) T.d_Beach_do_deed.b .nil passE (pa_cons (pv 1) (pa_cons (pe_lstS pa_nil) pa_nil))))
      (pss_one (ps_ret (pv 2))))), ?_⟩
    obtain ⟨dx, eb⟩ := hb.at_
    walk_at "RD"
    refine ⟨dx, _, eb, rfl, b, S, P, ow, gs, past, p, rfl, hb, fun hp => kE .nogate (by unfold takeE; rw [if_neg hp]) _ (Same.refl _), fun D g hg eD => ?_⟩
    obtain ⟨hgm, hgp⟩ := gateOf_some hg
    have hp : p ∈ places gs := List.mem_map.mpr ⟨g, hgm, hgp⟩
    refine ⟨dx, _, eb, rfl, by decide, fun l H1 n1 s1 e1 => ?_⟩
    have hb1 := hb.same s1
    refine ⟨b, S, P, ow, gs, past, p, l, [], [], rfl, hb1, hb.off n1, e1, .nil, fun g hg => absurd hg (by simp), hb.std.take, fun h3 => kE .deeds (by unfold takeE deedsE; rw [if_pos hp, if_pos h3]) _ s1, fun h3 H4 S' ow' _ k4 b4 o4 => ?_⟩
    exact k g hg (by unfold takeE deedsE; rw [if_pos hp, if_neg (by omega)]) H4 S' ow' D ((Kp.of s1).trans k4) b4 (fun a ha => (o4 a ha).imp id s1.free) (hb1.tup k4 (s1.get eD))
theorem sc_Beach_lift : FnScope ["self", "place", "foot_by", "head_by", "before", "gate"] ["self", "place", "foot_by", "head_by"] (defScope s_Beach_lift) := by walk_at "SC"
def sp_Beach_lift {K : PySem.W.Frag} {mg : Str → Option Value} (T : Tx K mg) : Sp := fun vs H Q E => ∃ (b S P : Addr) (ow : List Addr) (gs : List G) (past : List (List G)) (p x y : Int), vs = [.ref b, .int p, .int x, .int y] ∧ Bch T.C_Beach H b S P ow gs past ∧ (∀ e, liftE gs past p x y = some e → ∀ H', Same H H' → E (T.err e) none H') ∧ (∀ g, gateOf gs p = some g → liftE gs past p x y = none → ∀ H' S' ow' (D : Addr), Kp b P H H' → Bch T.C_Beach H' b S' P ow' (put1 gs p [⟨p, g.f + x, g.h + y⟩]) (past ++ [gs]) → (∀ a ∈ ow', a ∈ ow ∨ H a = none) → H' D = some (.tup [.int p, .int (g.f + x), .int (g.h + y)]) → Q (.ref D) H')
theorem ok_Beach_lift (T : Tx K mg) : FnOk P w K mg base (CXE P w) 2 T.f_Beach_lift T.fd_Beach_lift ["self", "place", "foot_by", "head_by"] (sp_Beach_lift T) := by
  refine T.d_Beach_lift.F.okX sc_Beach_lift (fun vs H Q E h => ?_) (fun cdv A outer s H vs Q E hr h => ?_)
  · obtain ⟨b, S, P, ow, gs, past, p, x, y, rfl, hb, kE, k⟩ := h
    rfl
  · obtain ⟨b, S, P, ow, gs, past, p, x, y, rfl, hb, kE, k⟩ := h
    have hu := hu_of hr
    refine ⟨_, (pss_cons (ps_set (i := 4) sc_Beach_lift.nd rfl (by walk_at "O") (pe_meth (pv 0) T.cl_Beach T.d_Beach_gate_at.mt (ok_Beach_gate_at T) (hr.mono (by decide)) T.d_Beach_gate_at.b .nil passE (pa_cons (pv 1) pa_nil)))
      (pss_cons (ps_set (i := 5) sc_Beach_lift.nd rfl (by walk_at "O") (pe_tupS (pa_cons (pe_ix ix_tup (pv 4) pe_int (fun _ _ => rfl)) (pa_cons (pe_op op_add (pe_ix ix_tup (pv 4) pe_int (fun _ _ => rfl)) (pv 2)) (pa_cons (pe_op op_add (pe_ix ix_tup (pv 4) pe_int (fun _ _ => rfl)) (pv 3)) pa_nil)))))
      (pss_cons (ps_expr (pe_call (ok_check_gate T) (hr.mono (by decide)) (by rfl) T.d_check_gate.m T.d_check_gate.F.kp T.d_check_gate.b .nil passE (pa_cons (pv 5) pa_nil)))
      (pss_cons (ps_expr (pe_meth (pv 0) T.cl_Beach T.d_Beach_do_deed.mt (ok_Beach_do_deed T) (hr.mono (by decide)) T.d_Beach_do_deed.b .nil passE (pa_cons (pv 1) (pa_cons (pe_lstS (pa_cons (pv 5) pa_nil)) pa_nil))))
      (pss_one (ps_ret (pv 5))))))), ?_⟩
    obtain ⟨dx, eb⟩ := hb.at_
    walk_at "Q"
    walk_at "RD"
    refine ⟨dx, _, eb, rfl, b, S, P, ow, gs, past, p, rfl, hb, fun hp => kE .nogate (by unfold liftE; rw [gateOf_none.mpr hp]) _ (Same.refl _), fun D g hg eD => ?_⟩
    obtain ⟨hgm, hgp⟩ := gateOf_some hg
    have le : liftE gs past p x y = (gateE p (g.f + x) (g.h + y)).or (deedsE past) := by unfold liftE; rw [hg]
    walk_at "NX"
    walk_at "Q"
    walk_at "RD"
    refine ⟨_, SqT.of eD, _, rfl, _, SqT.of eD, _, rfl, _, rfl, _, SqT.of eD, _, rfl, _, rfl, by decide, fun q H1 n1 s1 e1 => ?_⟩
    rw [hgp] at e1
    walk_at "NX"
    walk_at "Q"
    walk_at "RD"
    refine ⟨q, p, g.f + x, g.h + y, rfl, e1, fun e he => kE e (by rw [le, he]; rfl) _ s1, fun hok => ?_⟩
    have hb1 := hb.same s1
    obtain ⟨dx, eb⟩ := hb1.at_
    walk_at "NX"
    walk_at "RD"
    refine ⟨dx, _, eb, rfl, by decide, fun l H2 n2 s2 e2 => ?_⟩
    have hb2 := hb1.same s2
    refine ⟨b, S, P, ow, gs, past, p, l, [q], [⟨p, g.f + x, g.h + y⟩], rfl, hb2, hb1.off n2, e2, .cons (s2.get e1) .nil, fun g hg => by rw [List.mem_singleton.mp hg], hb.std.put (gateE_none.mp hok) (by rw [← hgp]; exact Nat.lt_of_lt_of_le (flt_lt hgm) hb.std.len), fun h3 => kE .deeds (by rw [le, hok]; unfold deedsE; rw [if_pos h3]; rfl) _ (s1.trans s2), fun h3 H4 S' ow' _ k4 b4 o4 => ?_⟩
    exact k g hg (by rw [le, hok]; unfold deedsE; rw [if_neg (by omega)]; rfl) H4 S' ow' q ((Kp.of (s1.trans s2)).trans k4) b4 (fun a ha => (o4 a ha).imp id (s1.trans s2).free) (hb2.tup k4 (s2.get e1))
theorem sc_Beach_sink : FnScope ["self", "place", "foot_by", "head_by"] ["self", "place", "foot_by", "head_by"] (defScope s_Beach_sink) := by walk_at "SC"
def sp_Beach_sink {K : PySem.W.Frag} {mg : Str → Option Value} (T : Tx K mg) : Sp := fun vs H Q E => ∃ (b S P : Addr) (ow : List Addr) (gs : List G) (past : List (List G)) (p x y : Int), vs = [.ref b, .int p, .int x, .int y] ∧ Bch T.C_Beach H b S P ow gs past ∧ (∀ e, liftE gs past p (-x) (-y) = some e → ∀ H', Same H H' → E (T.err e) none H') ∧ (∀ g, gateOf gs p = some g → liftE gs past p (-x) (-y) = none → ∀ H' S' ow' (D : Addr), Kp b P H H' → Bch T.C_Beach H' b S' P ow' (put1 gs p [⟨p, g.f + (-x), g.h + (-y)⟩]) (past ++ [gs]) → (∀ a ∈ ow', a ∈ ow ∨ H a = none) → H' D = some (.tup [.int p, .int (g.f + (-x)), .int (g.h + (-y))]) → Q (.ref D) H')
theorem ok_Beach_sink (T : Tx K mg) : FnOk P w K mg base (CXE P w) 3 T.f_Beach_sink T.fd_Beach_sink ["self", "place", "foot_by", "head_by"] (sp_Beach_sink T) := by
  refine T.d_Beach_sink.F.okX sc_Beach_sink (fun vs H Q E h => ?_) (fun cdv A outer s H vs Q E hr h => ?_)
  · obtain ⟨b, S, P, ow, gs, past, p, x, y, rfl, hb, kE, k⟩ := h
    rfl
  · obtain ⟨b, S, P, ow, gs, past, p, x, y, rfl, hb, kE, k⟩ := h
    have hu := hu_of hr
    refine ⟨_, (pss_one (ps_ret (pe_meth (pv 0) T.cl_Beach T.d_Beach_lift.mt (ok_Beach_lift T) (hr.mono (by decide)) T.d_Beach_lift.b .nil passE (pa_cons (pv 1) (pa_cons (pe_un un_neg (pv 2)) (pa_cons (pe_un un_neg (pv 3)) pa_nil)))))), ?_⟩
    obtain ⟨dx, eb⟩ := hb.at_
    walk_at "RD"
    exact ⟨dx, _, eb, rfl, b, S, P, ow, gs, past, p, -x, -y, rfl, hb, kE, k⟩
theorem sc_Beach_back : FnScope ["self", "many", "left"] ["self", "many"] (defScope s_Beach_back) := by walk_at "SC"
def sp_Beach_back {K : PySem.W.Frag} {mg : Str → Option Value} (T : Tx K mg) : Sp := fun vs H Q E => ∃ (b S P : Addr) (ow : List Addr) (gs : List G) (past : List (List G)) (n : Int), vs = [.ref b, .int n] ∧ Bch T.C_Beach H b S P ow gs past ∧ (∀ e, backE past n = some e → E (T.err e) none H) ∧ (backE past n = none → ∀ H' S' P' ow', Kp b b H H' → Bch T.C_Beach H' b S' P' ow' (past.getD (past.length - n.toNat) []) (past.take (past.length - n.toNat)) → (∀ a ∈ ow', a ∈ ow ∨ H a = none) → Q (.int ((past.take (past.length - n.toNat)).length : Int)) H')
theorem ok_Beach_back (T : Tx K mg) : FnOk P w K mg base (CXE P w) 1 T.f_Beach_back T.fd_Beach_back ["self", "many"] (sp_Beach_back T) := by
  refine T.d_Beach_back.F.okX sc_Beach_back (fun vs H Q E h => ?_) (fun cdv A outer s H vs Q E hr h => ?_)
  · obtain ⟨b, S, P, ow, gs, past, n, rfl, hb, kE, k⟩ := h
    rfl
  · obtain ⟨b, S, P, ow, gs, past, n, rfl, hb, kE, k⟩ := h
    have hu := hu_of hr
    refine ⟨_, (pss_cons (ps_if (pt_cmpR op_lt (pv 1) pe_int (nomark _)) (pss_one (ps_raise madeE rfl T.e_OutOfBounds (by rfl) T.m_OutOfBounds (pa_cons pe_str pa_nil)))
        pss_nil)
      (pss_cons (ps_if (pt_cmpR op_gt (pv 1) (pe_callB call_len_seq (by rfl) T.z_len bo_len (pa_cons (pe_fld (pv 0) rfl) pa_nil)) (nomark _)) (pss_one (ps_raise madeE rfl T.e_NothingBack (by rfl) T.m_NothingBack (pa_cons pe_str pa_nil)))
        pss_nil)
      (pss_cons (ps_set (i := 2) sc_Beach_back.nd rfl (by walk_at "O") (pe_op op_sub (pe_callB call_len_seq (by rfl) T.z_len bo_len (pa_cons (pe_fld (pv 0) rfl) pa_nil)) (pv 1)))
      (pss_cons (ps_fld (pv 0) (pe_ix ix_list (pe_fld (pv 0) rfl) (pv 2) (fun _ _ => rfl)) rfl)
      (pss_cons (ps_fld (pv 0) (pe_slice sl_listS (pe_fld (pv 0) rfl) po_none (po_some (pv 2))) rfl)
      (pss_one (ps_ret (pv 2)))))))), ?_⟩
    obtain ⟨dx, eb⟩ := hb.at_
    obtain ⟨ps, ep, pr, hps⟩ := hb.pa
    have lp := Paired.length pr
    have lm : (ps.map V.ref).length = past.length := by rw [List.length_map, lp]
    unfold backE at kE k
    walk_at "Q"
    walk_at "RD"
    by_cases h1 : n < 1
    · rw [if_pos (decide_eq_true h1)]
      rw [if_pos h1] at kE
      exact ⟨by decide, kE _ rfl⟩
    rw [if_neg (fun z => h1 (of_decide_eq_true z))]
    rw [if_neg h1] at kE k
    walk_at "NX"
    walk_at "Q"
    walk_at "RD"
    refine ⟨_, dx, _, eb, T.cl_Beach, T.n_Beach_past, _, rfl, _, rfl, _, .inl (SqL.of ep), ?_⟩
    rw [lm]
    by_cases h2 : (past.length : Int) < n
    · rw [if_pos (decide_eq_true h2)]
      rw [if_pos h2] at kE
      exact ⟨by decide, kE _ rfl⟩
    rw [if_neg (fun z => h2 (of_decide_eq_true z))]
    rw [if_neg h2] at k
    walk_at "NX"
    walk_at "Q"
    walk_at "RD"
    refine ⟨_, dx, _, eb, T.cl_Beach, T.n_Beach_past, _, rfl, _, rfl, _, .inl (SqL.of ep), ?_⟩
    rw [lm]
    walk_at "NX"
    walk_at "RD"
    obtain ⟨j, hj⟩ : ∃ j : Nat, (past.length : Int) - n = j := ⟨((past.length : Int) - n).toNat, by omega⟩
    have ej : past.length - n.toNat = j := by omega
    rw [ej] at k
    have hjl : j < past.length := by omega
    obtain ⟨S', hS', gS'⟩ := Paired.get pr (List.getElem?_eq_getElem hjl)
    have hSm : S' ∈ ps := List.mem_of_getElem? hS'
    have hSo := hps S' hSm
    obtain ⟨xs', eS'⟩ := hb.lv S' hSo.1
    have Sb : S' ≠ b := hb.neb eS' fun _ _ _ z => by cases z
    have bP : b ≠ P := ne_of eb ep (by simp)
    have hix : atI (ps.map V.ref) ((past.length : Int) - n) = some (V.ref S') := by rw [hj]; exact atI_refs hS'
    refine ⟨_, dx, _, eb, T.cl_Beach, T.n_Beach_past, _, rfl, _, rfl, _, SqL.of ep, _, hix, _, dx, _, eb, T.cl_Beach, T.n_Beach_standing, (by show 2 < 1000; decide), ?_⟩
    refine ⟨_, dx, _, upd_same, T.cl_Beach, T.n_Beach_past, _, rfl, _, rfl, _, SqL.of ((upd_ne bP.symm).trans ep), ?_⟩
    intro P2 H2 n2 s2 e2
    have hcut : cutV (ps.map V.ref) none (some ((past.length : Int) - n)) = (ps.take j).map V.ref := by
      rw [hj]
      exact (cutV_until).trans (List.map_take).symm
    rw [hcut] at e2
    have nP2 : H P2 = none := by
      have h1 : P2 ≠ b := fun z => by rw [z, upd_same] at n2; cases n2
      rwa [upd_ne h1] at n2
    have P2b : P2 ≠ b := (ne_of_none eb nP2).symm
    have hv : (past.length : Int) - n = ((past.take j).length : Int) := by rw [List.length_take]; omega
    rw [hv]
    have kp2 : ∀ a u, a ≠ b → H a = some u → H2 a = some u := fun a u ha e => s2.get ((upd_ne ha).trans e)
    have kp : Kp b b H (upd H2 b (.ins T.C_Beach dx [("standing", .ref S'), ("past", .ref P2)])) := fun a u ha _ e => (upd_ne ha).trans (kp2 a u ha e)
    have kt : ∀ a xs, H a = some (.tup xs) → upd H2 b (.ins T.C_Beach dx [("standing", .ref S'), ("past", .ref P2)]) a = some (.tup xs) := fun a xs e => kp a _ (hb.neb e fun _ _ _ z => by cases z) (hb.neb e fun _ _ _ z => by cases z) e
    have kl : ∀ a ∈ ow, ∀ u, H a = some u → upd H2 b (.ins T.C_Beach dx [("standing", .ref S'), ("past", .ref P2)]) a = some u := fun a ha u e => by
      obtain ⟨_, ea⟩ := hb.lv a ha
      have hab := hb.neb ea fun _ _ _ z => by cases z
      exact kp a u hab hab e
    refine ⟨_, dx, _, s2.get upd_same, T.cl_Beach, T.n_Beach_past, (by show 2 < 1000; decide), k rfl _ S' P2 (P2 :: ow) kp ?_ fun a ha => ?_⟩
    · have eg : past.getD j [] = past[j] := by rw [List.getD_eq_getElem?_getD, List.getElem?_eq_getElem hjl]; rfl
      rw [eg]
      refine ⟨⟨dx, upd_same⟩, gS'.keep (kl S' hSo.1) kt, ⟨ps.take j, (upd_ne P2b).trans e2, ?_, fun a ha => ⟨List.mem_cons_of_mem _ (hps a (List.mem_of_mem_take ha)).1, fun z => (by rw [z] at ha; exact hb.off nP2 (hps P2 (List.mem_of_mem_take ha)).1)⟩⟩, fun z => (by rw [z, nP2] at eS'; cases eS'), List.mem_cons_of_mem _ hSo.1, List.mem_cons_self, hb.stds _ (List.getElem_mem hjl), fun x hx => hb.stds x (List.mem_of_mem_take hx), by rw [List.length_take]; have := hb.len; omega, fun a ha => ?_⟩
      · exact Paired.keepM (Paired.takeP pr j) fun x y hx q => q.keep (kl x (hps x (List.mem_of_mem_take hx)).1) kt
      · rcases List.mem_cons.mp ha with z | z
        · rw [z]; exact ⟨_, (upd_ne P2b).trans e2⟩
        · obtain ⟨xs, ea⟩ := hb.lv a z
          exact ⟨xs, kl a z _ ea⟩
    · rcases List.mem_cons.mp ha with z | z
      · rw [z]; exact .inr nP2
      · exact .inl z
theorem sc_Beach_gates : FnScope ["self"] ["self"] (defScope s_Beach_gates) := by walk_at "SC"
def sp_Beach_gates {K : PySem.W.Frag} {mg : Str → Option Value} (T : Tx K mg) : Sp := fun vs H Q E => ∃ (b S P : Addr) (ow : List Addr) (gs : List G) (past : List (List G)), vs = [.ref b] ∧ Bch T.C_Beach H b S P ow gs past ∧ ∀ H' D as, H D = none → Same H H' → H' D = some (.lst (as.map V.ref)) → GsAt H' as gs → Q (.ref D) H'
theorem ok_Beach_gates (T : Tx K mg) : FnOk P w K mg base CX0 1 T.f_Beach_gates T.fd_Beach_gates ["self"] (sp_Beach_gates T) := by
  refine T.d_Beach_gates.F.ok sc_Beach_gates (fun vs H Q E h => ?_) (fun cdv A outer s H vs Q E hr h => ?_)
  · obtain ⟨b, S, P, ow, gs, past, rfl, hb, k⟩ := h
    rfl
  · obtain ⟨b, S, P, ow, gs, past, rfl, hb, k⟩ := h
    have hu := hu_of hr
    refine ⟨_, (pss_one (ps_ret (pe_callTy call_listS (by rfl) T.z_list bo_list (pa_cons (pe_fld (pv 0) rfl) pa_nil)))), ?_⟩
    obtain ⟨dx, eb⟩ := hb.at_
    obtain ⟨as, es, ga⟩ := hb.st
    walk_at "RD"
    refine ⟨_, dx, _, eb, T.cl_Beach, T.n_Beach_standing, _, rfl, ?_⟩
    refine ⟨_, rfl, _, .inl (SqL.of es), fun l H' n s e => ?_⟩
    exact k H' l as n s e (ga.same s)
theorem sc_Beach_deeds : FnScope ["self"] ["self"] (defScope s_Beach_deeds) := by walk_at "SC"
def sp_Beach_deeds {K : PySem.W.Frag} {mg : Str → Option Value} (T : Tx K mg) : Sp := fun vs H Q E => ∃ (b S P : Addr) (ow : List Addr) (gs : List G) (past : List (List G)), vs = [.ref b] ∧ Bch T.C_Beach H b S P ow gs past ∧ Q (.int past.length) H
theorem ok_Beach_deeds (T : Tx K mg) : FnOk P w K mg base CX0 1 T.f_Beach_deeds T.fd_Beach_deeds ["self"] (sp_Beach_deeds T) := by
  refine T.d_Beach_deeds.F.ok sc_Beach_deeds (fun vs H Q E h => ?_) (fun cdv A outer s H vs Q E hr h => ?_)
  · obtain ⟨b, S, P, ow, gs, past, rfl, hb, k⟩ := h
    rfl
  · obtain ⟨b, S, P, ow, gs, past, rfl, hb, k⟩ := h
    have hu := hu_of hr
    refine ⟨_, (pss_one (ps_ret (pe_callB call_len_seq (by rfl) T.z_len bo_len (pa_cons (pe_fld (pv 0) rfl) pa_nil)))), ?_⟩
    obtain ⟨dx, eb⟩ := hb.at_
    obtain ⟨ps, ep, pr, _⟩ := hb.pa
    have lp := Paired.length pr
    walk_at "RD"
    refine ⟨_, dx, _, eb, T.cl_Beach, T.n_Beach_past, _, rfl, ?_⟩
    refine ⟨_, rfl, _, .inl (SqL.of ep), ?_⟩
    rw [List.length_map, lp]
    exact k
theorem sc_Beach_gates_at : FnScope ["self", "places"] ["self", "places"] (defScope s_Beach_gates_at) := by walk_at "SC"
def sp_Beach_gates_at {K : PySem.W.Frag} {mg : Str → Option Value} (T : Tx K mg) : Sp := fun vs H Q E => ∃ (b S P : Addr) (ow : List Addr) (gs : List G) (past : List (List G)) (l : Addr) (ps : List Int), vs = [.ref b, .ref l] ∧ Bch T.C_Beach H b S P ow gs past ∧ SqL K H l (ps.map V.int) ∧ ps.length < 4000 ∧ (badL ps → ∀ H', Same H H' → E (T.err .badlist) none H') ∧ (¬ badL ps → ∀ p ∈ ps, p ∈ places gs) ∧ (¬ badL ps → ∀ D H' as, H D = none → Same H H' → H' D = some (.lst (as.map V.ref)) → GsAt H' as (picks gs ps) → Q (.ref D) H')
theorem ok_Beach_gates_at (T : Tx K mg) : FnOk P w K mg base (CXE P w) 2 T.f_Beach_gates_at T.fd_Beach_gates_at ["self", "places"] (sp_Beach_gates_at T) := by
  refine T.d_Beach_gates_at.F.okX sc_Beach_gates_at (fun vs H Q E h => ?_) (fun cdv A outer s H vs Q E hr h => ?_)
  · obtain ⟨b, S, P, ow, gs, past, l, ps, rfl, hb, hl, h4, kE, hst, k⟩ := h
    rfl
  · obtain ⟨b, S, P, ow, gs, past, l, ps, rfl, hb, hl, h4, kE, hst, k⟩ := h
    have hu := hu_of hr
    refine ⟨_, (pss_cons (ps_expr (pe_call (ok_check_places T) (hr.mono (by decide)) (by rfl) T.d_check_places.m T.d_check_places.F.kp T.d_check_places.b .nil passE (pa_cons (pv 1) pa_nil)))
      (pss_one (ps_ret (pe_comp rfl (⟨rfl, by decide +kernel, by decide +kernel, by decide +kernel, rfl, by decide +kernel, by with_unfolding_all rfl, by rfl, by rfl, by rfl⟩ : CompSt _ _ "place" ["self"] [0]) (pi_list (pv 1)) (fun _ _ _ _  => (pe_meth (pv 1) T.cl_Beach T.d_Beach_gate_at.mt (ok_Beach_gate_at T) (hr.mono (by decide)) T.d_Beach_gate_at.b .nil passX0 (pa_cons (pv 0) pa_nil))) (fun _ _ _ _ => pts_nil))))), ?_⟩
    delta iList
    refine ⟨l, ps, rfl, hl, h4, kE, fun hg H1 s1 => ⟨⟨_, s1.seq hl⟩, fun D nD => ?_⟩⟩
    have hs := hst hg
    have hb1 := hb.same s1
    have ll : ps.length ≤ 40 := Nat.le_of_not_lt fun z => hg (.inr (.inl z))
    refine comp_at (gs := picks gs ps) (by rw [picks_places hs]; exact s1.seq hl) nD (by rw [picks_len hs]; omega) (fun g H2 R hg s2 hR => ?_) fun H2 as s2 e2 ga => k ‹_› D H2 as (s1.free nD) (s1.trans s2) e2 ga
    have hb2 := hb1.same s2
    obtain ⟨dx, eb⟩ := hb2.at_
    delta Option.join_some
    refine ⟨dx, _, eb, rfl, b, S, P, ow, gs, past, g.p, rfl, hb2, fun hn => absurd (List.mem_map.mpr ⟨g, picks_mem hg, rfl⟩) hn, fun D' g' hg' eD' => ?_⟩
    rw [picks_of hb.std.asc hg] at hg'
    cases hg'
    exact hR D' eD'
theorem sc_Beach_two_gates_at : FnScope ["self", "places", "gates"] ["self", "places"] (defScope s_Beach_two_gates_at) := by walk_at "SC"
def sp_Beach_two_gates_at {K : PySem.W.Frag} {mg : Str → Option Value} (T : Tx K mg) : Sp := fun vs H Q E => ∃ (b S P : Addr) (ow : List Addr) (gs : List G) (past : List (List G)) (l : Addr) (ps : List Int), vs = [.ref b, .ref l] ∧ Bch T.C_Beach H b S P ow gs past ∧ SqL K H l (ps.map V.int) ∧ ps.length < 4000 ∧ (badL ps → ∀ H', Same H H' → E (T.err .badlist) none H') ∧ (¬ badL ps → ∀ p ∈ ps, p ∈ places gs) ∧ (¬ badL ps → ps.length < 2 → ∀ H', Same H H' → E (T.err .few) none H') ∧ (¬ badL ps → 2 ≤ ps.length → ∀ D H' as, H D = none → Same H H' → H' D = some (.lst (as.map V.ref)) → GsAt H' as (picks gs ps) → Q (.ref D) H')
theorem ok_Beach_two_gates_at (T : Tx K mg) : FnOk P w K mg base (CXE P w) 3 T.f_Beach_two_gates_at T.fd_Beach_two_gates_at ["self", "places"] (sp_Beach_two_gates_at T) := by
  refine T.d_Beach_two_gates_at.F.okX sc_Beach_two_gates_at (fun vs H Q E h => ?_) (fun cdv A outer s H vs Q E hr h => ?_)
  · obtain ⟨b, S, P, ow, gs, past, l, ps, rfl, hb, hl, h4, kE, hst, kF, k⟩ := h
    rfl
  · obtain ⟨b, S, P, ow, gs, past, l, ps, rfl, hb, hl, h4, kE, hst, kF, k⟩ := h
    have hu := hu_of hr
    refine ⟨_, (pss_cons (ps_set (i := 2) sc_Beach_two_gates_at.nd rfl (by walk_at "O") (pe_meth (pv 0) T.cl_Beach T.d_Beach_gates_at.mt (ok_Beach_gates_at T) (hr.mono (by decide)) T.d_Beach_gates_at.b .nil passE (pa_cons (pv 1) pa_nil)))
      (pss_cons (ps_if (pt_cmpR op_lt (pe_callB call_len_seq (by rfl) T.z_len bo_len (pa_cons (pv 2) pa_nil)) pe_int (nomark _)) (pss_one (ps_raise madeE rfl T.e_TooFew (by rfl) T.m_TooFew (pa_cons pe_str pa_nil)))
        pss_nil)
      (pss_one (ps_ret (pv 2))))), ?_⟩
    obtain ⟨dx, eb⟩ := hb.at_
    walk_at "RD"
    refine ⟨dx, _, eb, rfl, b, S, P, ow, gs, past, l, ps, rfl, hb, hl, h4, kE, hst, fun hg D H1 as n1 s1 e1 ga => ?_⟩
    first | refine ⟨_, .inl (SqL.of e1), ?_⟩ | refine ⟨_, rfl, _, .inl (SqL.of e1), ?_⟩
    have la := ga.len
    have lp := picks_len (hst hg)
    rw [List.length_map]
    by_cases h2 : ps.length < 2
    · rw [if_pos (decide_eq_true (by omega))]
      exact ⟨by decide, kF hg h2 _ s1⟩
    · rw [if_neg (fun z => h2 (by have := of_decide_eq_true z; omega))]
      exact k hg (by omega) D H1 as n1 s1 e1 ga
theorem sc_Beach_steepest : FnScope ["self", "places"] ["self", "places"] (defScope s_Beach_steepest) := by walk_at "SC"
def sp_Beach_steepest {K : PySem.W.Frag} {mg : Str → Option Value} (T : Tx K mg) : Sp := fun vs H Q E => ∃ (b S P : Addr) (ow : List Addr) (gs : List G) (past : List (List G)) (l : Addr) (ps : List Int), vs = [.ref b, .ref l] ∧ Bch T.C_Beach H b S P ow gs past ∧ SqL K H l (ps.map V.int) ∧ ps.length < 4000 ∧ (badL ps → ∀ H', Same H H' → E (T.err .badlist) none H') ∧ (¬ badL ps → ∀ p ∈ ps, p ∈ places gs) ∧ (¬ badL ps → ps.length < 2 → ∀ H', Same H H' → E (T.err .few) none H') ∧ (¬ badL ps → 2 ≤ ps.length → ∀ D H', Same H H' → EdgeAt true H' D (picks gs ps) → Q (.ref D) H')
theorem ok_Beach_steepest (T : Tx K mg) : FnOk P w K mg base (CXE P w) 8 T.f_Beach_steepest T.fd_Beach_steepest ["self", "places"] (sp_Beach_steepest T) := by
  refine T.d_Beach_steepest.F.okX sc_Beach_steepest (fun vs H Q E h => ?_) (fun cdv A outer s H vs Q E hr h => ?_)
  · obtain ⟨b, S, P, ow, gs, past, l, ps, rfl, hb, hl, h4, kE, hst, kF, k⟩ := h
    rfl
  · obtain ⟨b, S, P, ow, gs, past, l, ps, rfl, hb, hl, h4, kE, hst, kF, k⟩ := h
    have hu := hu_of hr
    refine ⟨_, (pss_one (ps_ret (pe_call (ok_steepest_throw T) (hr.mono (by decide)) (by rfl) T.d_steepest_throw.m T.d_steepest_throw.F.kp T.d_steepest_throw.b .nil pass0 (pa_cons (pe_meth (pv 0) T.cl_Beach T.d_Beach_two_gates_at.mt (ok_Beach_two_gates_at T) (hr.mono (by decide)) T.d_Beach_two_gates_at.b .nil passE (pa_cons (pv 1) pa_nil)) pa_nil)))), ?_⟩
    obtain ⟨dx, eb⟩ := hb.at_
    walk_at "RD"
    refine ⟨dx, _, eb, rfl, b, S, P, ow, gs, past, l, ps, rfl, hb, hl, h4, kE, hst, kF, fun hg h2 D H1 as n1 s1 e1 ga => ?_⟩
    have hs := hst hg
    have lp := picks_len hs
    exact ⟨D, as, picks gs ps, rfl, SqL.of e1, ga, by show (places _).Nodup; rw [picks_places hs]; exact Classical.byContradiction fun z => hg (.inr (.inr z)), by omega, by rw [lp]; exact Nat.le_of_not_lt fun z => hg (.inr (.inl z)), fun g hg => hb.std.ok g (picks_mem hg), fun D2 H2 s2 th => k hg h2 D2 H2 (s1.trans s2) th⟩
theorem sc_Beach_flattest : FnScope ["self", "places"] ["self", "places"] (defScope s_Beach_flattest) := by walk_at "SC"
def sp_Beach_flattest {K : PySem.W.Frag} {mg : Str → Option Value} (T : Tx K mg) : Sp := fun vs H Q E => ∃ (b S P : Addr) (ow : List Addr) (gs : List G) (past : List (List G)) (l : Addr) (ps : List Int), vs = [.ref b, .ref l] ∧ Bch T.C_Beach H b S P ow gs past ∧ SqL K H l (ps.map V.int) ∧ ps.length < 4000 ∧ (badL ps → ∀ H', Same H H' → E (T.err .badlist) none H') ∧ (¬ badL ps → ∀ p ∈ ps, p ∈ places gs) ∧ (¬ badL ps → ps.length < 2 → ∀ H', Same H H' → E (T.err .few) none H') ∧ (¬ badL ps → 2 ≤ ps.length → ∀ D H', Same H H' → EdgeAt false H' D (picks gs ps) → Q (.ref D) H')
theorem ok_Beach_flattest (T : Tx K mg) : FnOk P w K mg base (CXE P w) 8 T.f_Beach_flattest T.fd_Beach_flattest ["self", "places"] (sp_Beach_flattest T) := by
  refine T.d_Beach_flattest.F.okX sc_Beach_flattest (fun vs H Q E h => ?_) (fun cdv A outer s H vs Q E hr h => ?_)
  · obtain ⟨b, S, P, ow, gs, past, l, ps, rfl, hb, hl, h4, kE, hst, kF, k⟩ := h
    rfl
  · obtain ⟨b, S, P, ow, gs, past, l, ps, rfl, hb, hl, h4, kE, hst, kF, k⟩ := h
    have hu := hu_of hr
    refine ⟨_, (pss_one (ps_ret (pe_call (ok_flattest_throw T) (hr.mono (by decide)) (by rfl) T.d_flattest_throw.m T.d_flattest_throw.F.kp T.d_flattest_throw.b .nil pass0 (pa_cons (pe_meth (pv 0) T.cl_Beach T.d_Beach_two_gates_at.mt (ok_Beach_two_gates_at T) (hr.mono (by decide)) T.d_Beach_two_gates_at.b .nil passE (pa_cons (pv 1) pa_nil)) pa_nil)))), ?_⟩
    obtain ⟨dx, eb⟩ := hb.at_
    walk_at "RD"
    refine ⟨dx, _, eb, rfl, b, S, P, ow, gs, past, l, ps, rfl, hb, hl, h4, kE, hst, kF, fun hg h2 D H1 as n1 s1 e1 ga => ?_⟩
    have hs := hst hg
    have lp := picks_len hs
    exact ⟨D, as, picks gs ps, rfl, SqL.of e1, ga, by show (places _).Nodup; rw [picks_places hs]; exact Classical.byContradiction fun z => hg (.inr (.inr z)), by omega, by rw [lp]; exact Nat.le_of_not_lt fun z => hg (.inr (.inl z)), fun g hg => hb.std.ok g (picks_mem hg), fun D2 H2 s2 th => k hg h2 D2 H2 (s1.trans s2) th⟩
theorem sc_w_at : FnScope ["_law_script", "_law_k"] ["_law_script", "_law_k"] (defScope s_w_at) := by walk_at "SC"
def sp_w_at (K : PySem.W.Frag) : Sp := fun vs H Q _ => ∃ (a : Addr) (k : Int) (ns : List Int), vs = [.ref a, .int k] ∧ 0 ≤ k ∧ SqL K H a (ns.map V.int) ∧ Q (.int (ns.getD k.toNat 0)) H
theorem ok_w_at (T : Tx K mg) : FnOk P w K mg base CX0 1 T.f_w_at T.fd_w_at ["_law_script", "_law_k"] (sp_w_at K) := by
  refine T.d_w_at.F.ok sc_w_at (fun vs H Q E h => ?_) (fun cdv A outer s H vs Q E hr h => ?_)
  · obtain ⟨a, k, ns, rfl, h0, hS, hq⟩ := h
    rfl
  · obtain ⟨a, k, ns, rfl, h0, hS, hq⟩ := h
    have hu := hu_of hr
    refine ⟨_, (pss_cons (ps_if (pt_cmpR op_lt (pv 1) (pe_callB call_len_seq (by rfl) T.z_len bo_len (pa_cons (pv 0) pa_nil)) (nomark _)) (pss_one (ps_ret (pe_ix ix_list (pv 0) (pv 1) (fun _ _ => rfl))))
        pss_nil)
      (pss_one (ps_ret pe_int))), ?_⟩
    walk_at "RD"
    refine ⟨_, Or.inl hS, ?_⟩
    obtain ⟨k, rfl⟩ := Int.eq_ofNat_of_zero_le h0
    rw [List.length_map]
    by_cases hk : k < ns.length
    · rw [if_pos (by simpa using hk)]
      refine ⟨_, hS, _, atI_nat (v := V.int (ns.getD k 0)) ?_, hq⟩
      rw [List.getElem?_map, List.getElem?_eq_getElem hk, List.getD_eq_getElem?_getD, List.getElem?_eq_getElem hk]
      rfl
    · rw [if_neg (by simpa using hk)]
      rw [Int.toNat_natCast, List.getD_eq_getElem?_getD, List.getElem?_eq_none (by omega)] at hq
      exact hq
theorem sc_w_spread : FnScope ["_law_cell", "_law_many", "_law_mixed", "_law_row", "_law_left", "_law_once", "_law_k"] ["_law_cell", "_law_many", "_law_mixed"] (defScope s_w_spread) := by walk_at "SC"
def sp_w_spread : Sp := fun vs H Q _ => ∃ (c m : Int) (b : Bool), vs = [.int c, .int m, .bl b] ∧ 0 ≤ m ∧ m ≤ 100 ∧ ∀ D H' (xs : List Int), H D = none → Same H H' → H' D = some (.lst (xs.map V.int)) → xs.length = m.toNat → Q (.ref D) H'
def W_spr (c m : Int) (b : Bool) (D : Addr) (H : Hp) : Nat → St → Hp → Prop := fun i σ H' => ∃ (xs : List Int) (lf on : Int) (k : Option V), σ = [some (.int c), some (.int m), some (.bl b), some (.ref D), some (.int lf), some (.int on), k] ∧ Same H H' ∧ H' D = some (.lst (xs.map V.int)) ∧ xs.length = i ∧ 0 ≤ on ∧ on < 2147483647
theorem ok_w_spread (T : Tx K mg) : FnOk P w K mg base CX0 1 T.f_w_spread T.fd_w_spread ["_law_cell", "_law_many", "_law_mixed"] sp_w_spread := by
  refine T.d_w_spread.F.ok sc_w_spread (fun vs H Q E h => ?_) (fun cdv A outer s H vs Q E hr h => ?_)
  · obtain ⟨c, m, b, rfl, h0, h1, k⟩ := h
    rfl
  · obtain ⟨c, m, b, rfl, h0, h1, k⟩ := h
    have hu := hu_of hr
    refine ⟨_, (pss_cons (ps_set (i := 3) sc_w_spread.nd rfl (by walk_at "O") (pe_lstS pa_nil))
      (pss_cons (ps_set (i := 4) sc_w_spread.nd rfl (by walk_at "O") (pv 0))
      (pss_cons (ps_set (i := 5) sc_w_spread.nd rfl (by walk_at "O") (pe_op op_mod (pv 0) pe_int))
      (pss_cons (ps_for PassesOwn.never rfl (pi_range1 (by rfl) T.z_range (pa_cons (pv 1) pa_nil)) (pg_name (i := 6) sc_w_spread.nd rfl (by walk_at "O"))
        (pss_cons (ps_set (i := 5) sc_w_spread.nd rfl (by walk_at "O") (pe_op op_mod (pe_op op_add (pe_op op_add (pe_op op_mul (pv 5) pe_int) pe_int) (pv 6)) pe_int))
          (pss_one (ps_if (pt_val (pv 2)) (pss_one (ps_expr (pe_append (pv 3) (pe_op op_mod (pe_op op_mod (pe_op op_add (pe_op op_mul (pv 5) pe_int) (pv 6)) pe_int) pe_int))))
            (pss_cons (ps_expr (pe_append (pv 3) (pe_op op_mod (pv 4) pe_int)))
              (pss_one (ps_set (i := 4) sc_w_spread.nd rfl (by walk_at "O") (pe_op op_fdiv (pv 4) pe_int))))))))
      (pss_one (ps_ret (pv 3))))))), ?_⟩
    walk_at "RD"
    walk_at "AUTO"
    refine ⟨_, rfl, m, rfl, by omega, by omega, for_range (n := m.toNat) (W_spr c m b p H) ⟨[], _, _, none, rfl, hs, he, rfl, by omega, by omega⟩ ?_ ?_⟩
    · rintro i σ H1 hi ⟨xs, lf, on, k', rfl, s1, e1, hl, o1, o2⟩
      have hz : (xs.map V.int).length < sizeLine := by rw [List.length_map, PySem.sizeLine_eq]; omega
      walk_at "RD"
      walk_at "AUTO"
      cases b
      · rw [if_neg (by decide)]
        refine ⟨⟨_, e1⟩, _, e1, hz, ?_⟩
        walk_at "AUTO"
        refine ⟨xs ++ [lf % 4004001], _, _, _, rfl, s1.updFresh hn, ?_, by rw [List.length_append, hl]; rfl, by omega, by omega⟩
        rw [upd_same, List.map_append]; rfl
      · rw [if_pos rfl]
        refine ⟨⟨_, e1⟩, _, e1, hz, ?_⟩
        walk_at "AUTO"
        refine ⟨xs ++ [((on * 48271 + 11 + (0 + (i : Int))) % 2147483647 * 69621 + (0 + (i : Int))) % 2147483647 % 4004001], _, _, _, rfl, s1.updFresh hn, ?_, by rw [List.length_append, hl]; rfl, by omega, by omega⟩
        rw [upd_same, List.map_append]; rfl
    · rintro σ H1 ⟨xs, lf, on, k', rfl, s1, e1, hl, o1, o2⟩
      walk_at "RD"
      exact k _ _ xs hn s1 e1 hl
theorem sc_w_heights : FnScope ["_law_kind", "_law_line", "_law_wide", "_law_low", "_law_high", "_law_under", "_law_over"] ["_law_kind", "_law_line", "_law_wide", "_law_low", "_law_high"] (defScope s_w_heights) := by walk_at "SC"
def sp_w_heights : Sp := fun vs H Q _ => ∃ kd ln wd lo hi : Int, vs = [.int kd, .int ln, .int wd, .int lo, .int hi] ∧ 0 < wd ∧ wd < 10000 ∧ ∀ D H' f h, Same H H' → H' D = some (.tup [.int f, .int h]) → Q (.ref D) H'
theorem ok_w_heights (T : Tx K mg) : FnOk P w K mg base CX0 1 T.f_w_heights T.fd_w_heights ["_law_kind", "_law_line", "_law_wide", "_law_low", "_law_high"] sp_w_heights := by
  refine T.d_w_heights.F.ok sc_w_heights (fun vs H Q E h => ?_) (fun cdv A outer s H vs Q E hr h => ?_)
  · obtain ⟨kd, ln, wd, lo, hi, rfl, h0, h1, k⟩ := h
    rfl
  · obtain ⟨kd, ln, wd, lo, hi, rfl, h0, h1, k⟩ := h
    have hu := hu_of hr
    refine ⟨_, (pss_cons (ps_set (i := 5) sc_w_heights.nd rfl (by walk_at "O") (pe_op op_fdiv (pv 1) (pv 2)))
      (pss_cons (ps_set (i := 6) sc_w_heights.nd rfl (by walk_at "O") (pe_un un_neg (pe_op op_fdiv (pe_un un_neg (pv 1)) (pv 2))))
      (pss_cons (ps_if (pt_cmpR op_eq (pv 0) pe_int (nomark _)) (pss_one (ps_ret (pe_tupS (pa_cons (pe_op op_sub (pe_op op_mod (pv 3) pe_int) pe_int) (pa_cons (pe_op op_add (pe_op op_sub (pe_op op_mod (pv 3) pe_int) pe_int) (pe_op op_mod (pv 4) pe_int)) pa_nil)))))
        pss_nil)
      (pss_cons (ps_if (pt_cmpR op_eq (pv 0) pe_int (nomark _)) (pss_one (ps_ret (pe_tupS (pa_cons (pe_op op_sub (pe_op op_mod (pv 3) pe_int) pe_int) (pa_cons (pe_op op_add (pe_op op_sub (pe_op op_mod (pv 3) pe_int) pe_int) (pe_op op_mod (pv 4) pe_int)) pa_nil)))))
        pss_nil)
      (pss_cons (ps_if (pw_and (pt_cmpR op_eq (pv 0) pe_int (nomark _)) (pw_and1 (pt_cmpR op_eq (pe_op op_mod (pv 3) pe_int) pe_int (nomark _)))).pt (pss_one (ps_ret (pe_tupS (pa_cons (pv 6) (pa_cons (pe_op op_add (pv 6) (pe_op op_mod (pv 4) pe_int)) pa_nil)))))
        pss_nil)
      (pss_cons (ps_if (pt_cmpR op_eq (pv 0) pe_int (nomark _)) (pss_one (ps_ret (pe_tupS (pa_cons (pe_op op_sub (pv 5) (pe_op op_mod (pv 4) pe_int)) (pa_cons (pv 5) pa_nil)))))
        pss_nil)
      (pss_one (ps_ret (pe_tupS (pa_cons (pe_op op_sub (pv 5) (pe_op op_mod (pv 3) pe_int)) (pa_cons (pe_op op_add (pv 6) (pe_op op_mod (pv 4) pe_int)) pa_nil))))))))))), ?_⟩
    walk_at "Q"
    walk_at "RD"
    walk_at "AUTO"
    walk_at "NX"
    walk_at "Q"
    walk_at "RD"
    walk_at "AUTO"
    walk_at "NX"
    walk_at "RD"
    walk_at "AUTO"
    repeat' (first | split | exact k _ _ _ _ (by assumption) (by assumption) | walk_at "STEP")
theorem sc_w_gates : FnScope ["_law_script", "_law_at_here", "_law_many", "_law_cell", "_law_kind", "_law_places", "_law_lows", "_law_highs", "_law_span", "_law_near", "_law_ends", "_law_made", "_law_used", "_law_k", "_law_place", "_law_step_here", "_law_line", "_law_foot", "_law_head"] ["_law_script", "_law_at_here", "_law_many"] (defScope s_w_gates) := by walk_at "SC"
def sp_w_gates (K : PySem.W.Frag) : Sp := fun vs H Q _ => ∃ (a : Addr) (at' many : Int) (ns : List Int), vs = [.ref a, .int at', .int many] ∧ SqL K H a (ns.map V.int) ∧ 0 ≤ at' ∧ at' ≤ 63 ∧ 0 ≤ many ∧ many ≤ 41 ∧ ∀ D H' as gs, H D = none → Same H H' → H' D = some (.lst (as.map V.ref)) → GsAt H' as gs → gs.length = many.toNat → (∀ g ∈ gs, OkG g) → (gs.map G.p).Nodup → Q (.ref D) H'
def Cf (fr : St) (H : Hp) : St → Hp → Prop := fun σ H' => ∃ f h : Int, σ = fr ++ [some (.int f), some (.int h)] ∧ H' = H
structure Gb (many span near e0 e1 : Int) : Prop where
  s0 : 2 ≤ span
  s1 : span ≤ 2001
  s2 : many ≤ span
  n0 : -1000 ≤ near
  n1 : near + span ≤ 1001
  b0 : e0.natAbs ≤ 1000
  b1 : e1.natAbs ≤ 10000
structure Gl (H' : Hp) (P L R E : Addr) (ps ls rs : List Int) (e0 e1 : Int) : Prop where
  eP : H' P = some (.lst (ps.map V.int))
  eL : H' L = some (.lst (ls.map V.int))
  eR : H' R = some (.lst (rs.map V.int))
  eE : H' E = some (.lst [.int e0, .int e1])
theorem Gl.same {H H' : Hp} {P L R E : Addr} {ps ls rs : List Int} {e0 e1 : Int} (g : Gl H P L R E ps ls rs e0 e1) (s : Same H H') : Gl H' P L R E ps ls rs e0 e1 := ⟨s.get g.eP, s.get g.eL, s.get g.eR, s.get g.eE⟩
def Cg (a P L R : Addr) (at' many cl : Int) (ps ls rs : List Int) (H : Hp) : St → Hp → Prop := fun σ H' => ∃ (E : Addr) (span near e0 e1 : Int), σ = [some (.ref a), some (.int at'), some (.int many), some (.int cl), some (.int (cl / 2 % 5)), some (.ref P), some (.ref L), some (.ref R), some (.int span), some (.int near), some (.ref E), none, none, none, none, none, none, none, none] ∧ Same H H' ∧ Gl H' P L R E ps ls rs e0 e1 ∧ Gb many span near e0 e1
structure Gm (H' : Hp) (M U : Addr) (as : List Addr) (gs : List G) (kvs : List (Key × V)) (near span : Int) (i : Nat) : Prop where
  eM : H' M = some (.lst (as.map V.ref))
  at_ : GsAt H' as gs
  eU : H' U = some (.dK kvs)
  len : gs.length = i
  kl : kvs.length ≤ i
  keys : ∀ z : Int, (valV kvs (Sum.inl z : Key)).isSome = true ↔ z ∈ gs.map G.p
  ok : ∀ g ∈ gs, OkG g
  nd : (gs.map G.p).Nodup
  stretch : ∀ g ∈ gs, near ≤ g.p ∧ g.p < near + span
def Wg (a P L R E M U : Addr) (at' many cl span near : Int) (H : Hp) : Nat → St → Hp → Prop := fun i σ H' => ∃ (as : List Addr) (gs : List G) (kvs : List (Key × V)) (x1 x2 x3 x4 x5 x6 : Option V), σ = [some (.ref a), some (.int at'), some (.int many), some (.int cl), some (.int (cl / 2 % 5)), some (.ref P), some (.ref L), some (.ref R), some (.int span), some (.int near), some (.ref E), some (.ref M), some (.ref U), x1, x2, x3, x4, x5, x6] ∧ Same H H' ∧ Gm H' M U as gs kvs near span i
def Wi (a P L R E M U : Addr) (at' many cl span near : Int) (gs : List G) (kk p0 : Int) (x4 x5 x6 : Option V) (H : Hp) : Nat → St → Hp → Prop := fun j σ H' => ∃ (pl : Int) (x3 : Option V), σ = [some (.ref a), some (.int at'), some (.int many), some (.int cl), some (.int (cl / 2 % 5)), some (.ref P), some (.ref L), some (.ref R), some (.int span), some (.int near), some (.ref E), some (.ref M), some (.ref U), some (.int kk), some (.int pl), x3, x4, x5, x6] ∧ H' = H ∧ near ≤ pl ∧ pl < near + span ∧
  (pl ∉ gs.map G.p ∨ (pl = near + (p0 - near + j) % span ∧ ∀ t : Nat, t < j → near + (p0 - near + t) % span ∈ gs.map G.p))
theorem ok_w_gates (T : Tx K mg) : FnOk P w K mg base CX0 2 T.f_w_gates T.fd_w_gates ["_law_script", "_law_at_here", "_law_many"] (sp_w_gates K) := by
  refine T.d_w_gates.F.ok sc_w_gates (fun vs H Q E h => ?_) (fun cdv A outer s H vs Q E hr h => ?_)
  · obtain ⟨a, at', many, ns, rfl, hS, a0, a1, m0, m1, k⟩ := h
    rfl
  · obtain ⟨a, at', many, ns, rfl, hS, a0, a1, m0, m1, k⟩ := h
    have hu := hu_of hr
    refine ⟨_, (pss_cons (ps_set (i := 3) sc_w_gates.nd rfl (by walk_at "O") (pe_call (ok_w_at T) (hr.mono (by decide)) (by rfl) T.d_w_at.m T.d_w_at.F.kp T.d_w_at.b .nil pass0 (pa_cons (pv 0) (pa_cons (pv 1) pa_nil))))
      (pss_cons (ps_set (i := 4) sc_w_gates.nd rfl (by walk_at "O") (pe_op op_mod (pe_op op_fdiv (pv 3) pe_int) pe_int))
      (pss_cons (ps_set (i := 5) sc_w_gates.nd rfl (by walk_at "O") (pe_call (ok_w_spread T) (hr.mono (by decide)) (by rfl) T.d_w_spread.m T.d_w_spread.F.kp T.d_w_spread.b .nil pass0 (pa_cons (pe_call (ok_w_at T) (hr.mono (by decide)) (by rfl) T.d_w_at.m T.d_w_at.F.kp T.d_w_at.b .nil pass0 (pa_cons (pv 0) (pa_cons (pe_op op_add (pv 1) pe_int) pa_nil))) (pa_cons (pe_op op_add (pv 2) pe_int) (pa_cons (pe_cmpR op_eq (pe_op op_mod (pv 3) pe_int) pe_int (nomark _)) pa_nil)))))
      (pss_cons (ps_set (i := 6) sc_w_gates.nd rfl (by walk_at "O") (pe_call (ok_w_spread T) (hr.mono (by decide)) (by rfl) T.d_w_spread.m T.d_w_spread.F.kp T.d_w_spread.b .nil pass0 (pa_cons (pe_call (ok_w_at T) (hr.mono (by decide)) (by rfl) T.d_w_at.m T.d_w_at.F.kp T.d_w_at.b .nil pass0 (pa_cons (pv 0) (pa_cons (pe_op op_add (pv 1) pe_int) pa_nil))) (pa_cons (pe_op op_add (pv 2) pe_int) (pa_cons (pe_cmpR op_eq (pe_op op_mod (pv 3) pe_int) pe_int (nomark _)) pa_nil)))))
      (pss_cons (ps_set (i := 7) sc_w_gates.nd rfl (by walk_at "O") (pe_call (ok_w_spread T) (hr.mono (by decide)) (by rfl) T.d_w_spread.m T.d_w_spread.F.kp T.d_w_spread.b .nil pass0 (pa_cons (pe_call (ok_w_at T) (hr.mono (by decide)) (by rfl) T.d_w_at.m T.d_w_at.F.kp T.d_w_at.b .nil pass0 (pa_cons (pv 0) (pa_cons (pe_op op_add (pv 1) pe_int) pa_nil))) (pa_cons (pe_op op_add (pv 2) pe_int) (pa_cons (pe_cmpR op_eq (pe_op op_mod (pv 3) pe_int) pe_int (nomark _)) pa_nil)))))
      (pss_cons (ps_set (i := 8) sc_w_gates.nd rfl (by walk_at "O") (pe_callB (call_max2 (by rfl)) (by rfl) T.z_max bo_max (pa_cons pe_int (pa_cons (pe_ix ix_list (pe_lstS (pa_cons (pe_op op_add (pv 2) (pe_op op_mod (pe_ix ix_list (pv 5) (pv 2) (fun _ _ => rfl)) pe_int)) (pa_cons pe_int pa_nil))) (pe_op op_mod (pe_op op_fdiv (pv 3) pe_int) pe_int) (fun _ _ => rfl)) pa_nil))))
      (pss_cons (ps_set (i := 9) sc_w_gates.nd rfl (by walk_at "O") (pe_op op_sub (pe_op op_mod (pe_ix ix_list (pv 5) (pe_op op_add (pv 2) pe_int) (fun _ _ => rfl)) (pe_op op_sub pe_int (pv 8))) pe_int))
      (pss_cons (ps_set (i := 10) sc_w_gates.nd rfl (by walk_at "O") (pe_lstS (pa_cons (pe_op op_sub (pe_op op_mod (pe_ix ix_list (pv 6) (pv 2) (fun _ _ => rfl)) pe_int) pe_int) (pa_cons (pe_op op_sub (pe_op op_mod (pe_ix ix_list (pv 7) (pv 2) (fun _ _ => rfl)) pe_int) pe_int) pa_nil))))
      (pss_cut (ps_if (pt_cmpR op_eq (pv 4) pe_int (nomark _)) (pss_one (ps_asg (pe_op op_add (pe_ix ix_list (pv 10) pe_int (fun _ _ => rfl)) (pe_op op_mul (pe_op op_sub (pe_op op_mod (pe_ix ix_list (pv 10) pe_int (fun _ _ => rfl)) pe_int) pe_int) (pe_op op_sub (pv 8) pe_int))) (pg_sub (pv 10) pe_int set_list)))
        pss_nil)
      (pss_cons (ps_set (i := 11) sc_w_gates.nd rfl (by walk_at "O") (pe_lstS pa_nil))
      (pss_cons (ps_set (i := 12) sc_w_gates.nd rfl (by walk_at "O") pe_dnewS)
      (pss_cons (ps_for PassesOwn.never rfl (pi_range1 (by rfl) T.z_range (pa_cons (pv 2) pa_nil)) (pg_name (i := 13) sc_w_gates.nd rfl (by walk_at "O"))
        (pss_cons (ps_set (i := 14) sc_w_gates.nd rfl (by walk_at "O") (pe_op op_add (pv 9) (pe_op op_mod (pe_ix ix_list (pv 5) (pv 13) (fun _ _ => rfl)) (pv 8))))
          (pss_cons (ps_for PassesOwn.never rfl (pi_range1 (by rfl) T.z_range (pa_cons (pv 13) pa_nil)) (pg_name (i := 15) sc_w_gates.nd rfl (by walk_at "O"))
            (pss_one (ps_if (pt_cmp (pc_din hu (pv 14) (pv 12))) (pss_one (ps_set (i := 14) sc_w_gates.nd rfl (by walk_at "O") (pe_op op_add (pv 9) (pe_op op_mod (pe_op op_add (pe_op op_sub (pv 14) (pv 9)) pe_int) (pv 8)))))
                pss_nil)))
          (pss_cons (ps_dput hu (pv 12) (pv 14) pe_bl rfl)
          (pss_cons (ps_set (i := 16) sc_w_gates.nd rfl (by walk_at "O") (pe_op op_add (pe_op op_mul (pe_ix ix_list (pv 10) pe_int (fun _ _ => rfl)) (pe_op op_sub (pv 8) pe_int)) (pe_op op_mul (pe_op op_sub (pe_ix ix_list (pv 10) pe_int (fun _ _ => rfl)) (pe_ix ix_list (pv 10) pe_int (fun _ _ => rfl))) (pe_op op_sub (pv 14) (pv 9)))))
          (pss_cons (ps_asg (pe_call (ok_w_heights T) (hr.mono (by decide)) (by rfl) T.d_w_heights.m T.d_w_heights.F.kp T.d_w_heights.b .nil pass0 (pa_cons (pv 4) (pa_cons (pv 16) (pa_cons (pe_op op_sub (pv 8) pe_int) (pa_cons (pe_ix ix_list (pv 6) (pv 13) (fun _ _ => rfl)) (pa_cons (pe_ix ix_list (pv 7) (pv 13) (fun _ _ => rfl)) pa_nil)))))) (pg_tup (n := 2) rfl (pgs_cons (pg_name (i := 17) sc_w_gates.nd rfl (by walk_at "O")) (pgs_cons (pg_name (i := 18) sc_w_gates.nd rfl (by walk_at "O")) pgs_nil))))
          (pss_cut (ps_if (pw_and (pt_cmpR op_eq (pv 4) pe_int (nomark _)) (pw_and1 (pt_cmpR op_eq (pv 13) (pe_op op_mod (pe_ix ix_list (pv 6) (pe_op op_add (pv 2) pe_int) (fun _ _ => rfl)) (pv 2)) (nomark _)))).pt (pss_cons (ps_set (i := 17) sc_w_gates.nd rfl (by walk_at "O") (pe_op op_sub (pe_op op_add (pv 17) (pe_op op_mod (pe_ix ix_list (pv 7) (pe_op op_add (pv 2) pe_int) (fun _ _ => rfl)) pe_int)) pe_int))
              (pss_one (ps_set (i := 18) sc_w_gates.nd rfl (by walk_at "O") (pe_op op_sub (pe_op op_add (pv 18) (pe_op op_mod (pe_ix ix_list (pv 7) (pe_op op_add (pv 2) pe_int) (fun _ _ => rfl)) pe_int)) pe_int))))
            pss_nil)
          (pss_cons (ps_set (i := 17) sc_w_gates.nd rfl (by walk_at "O") (pe_callB (call_max2 (by rfl)) (by rfl) T.z_max bo_max (pa_cons (pe_un un_neg pe_int) (pa_cons (pe_callB (call_min2 (by rfl)) (by rfl) T.z_min bo_min (pa_cons pe_int (pa_cons (pv 17) pa_nil))) pa_nil))))
          (pss_one (ps_expr (pe_append (pv 11) (pe_tupS (pa_cons (pv 14) (pa_cons (pv 17) (pa_cons (pe_callB (call_max2 (by rfl)) (by rfl) T.z_max bo_max (pa_cons (pv 17) (pa_cons (pe_callB (call_min2 (by rfl)) (by rfl) T.z_min bo_min (pa_cons pe_int (pa_cons (pv 18) pa_nil))) pa_nil))) pa_nil)))))))))))))))
      (pss_one (ps_ret (pv 11))))))))))))))), ?_⟩
    walk_at "Q"
    delta sp_w_at
    walk_at "AUTO"
    walk_at "NX"
    walk_at "Q"
    walk_at "RD"
    walk_at "NX"
    walk_at "Q"
    delta sp_w_at sp_w_spread
    walk_at "AUTO"
    intro P H1 ps nP s1 eP lP
    walk_at "NX"
    walk_at "Q"
    delta sp_w_at sp_w_spread
    walk_at "AUTO"
    intro L H2 ls nL s2 eL lL
    walk_at "NX"
    walk_at "Q"
    delta sp_w_at sp_w_spread
    walk_at "AUTO"
    intro R H3 rs nR s3 eR lR
    walk_at "NX"
    walk_at "Q"
    walk_at "RD"
    walk_at "AUTO"
    obtain ⟨sp, hsp, hsp2⟩ := atL2 (x := many + ps.getD many.toNat 0 % 9) (y := 2001) (e := ns.getD at'.toNat 0 / 10 % 2) (by omega) (by omega)
    walk_at "AUTO"
    have hspB : 2 ≤ (if sp > 2 then sp else 2) ∧ (if sp > 2 then sp else 2) ≤ 2001 ∧ many ≤ (if sp > 2 then sp else 2) := by split <;> omega
    generalize (if sp > 2 then sp else 2) = span at hspB ⊢
    obtain ⟨hb1, hb2, hb3⟩ := hspB
    walk_at "NX"
    walk_at "Q"
    walk_at "RD"
    walk_at "AUTO"
    walk_at "NX"
    have hnear := Int.emod_nonneg (ps.getD (many + 1).toNat 0) (show (2002 - span) ≠ 0 by omega)
    have hnear2 := Int.emod_lt_of_pos (ps.getD (many + 1).toNat 0) (show 0 < 2002 - span by omega)
    generalize ps.getD (many + 1).toNat 0 % (2002 - span) = nr at hnear hnear2 ⊢
    walk_at "Q"
    walk_at "RD"
    walk_at "AUTO"
    walk_at "NX"
    have hp0 : H p = none := Same.free (by walk_at "SAME8") hn
    refine ⟨Cg a P L R at' many (ns.getD at'.toNat 0) ps ls rs H, ?_, ?_⟩
    · walk_at "RD"
      split
      · walk_at "AUTO"
        have hq := abs_mul_le (show ((rs.getD many.toNat 0 % 2001 - 1000) % 7 - 3).natAbs ≤ 3 by omega) (show (span - 1).natAbs ≤ 2000 by omega)
        refine ⟨p, span, _, _, _, rfl, Same.updFresh (by walk_at "SAME8") hp0, ⟨?_, ?_, ?_, upd_same⟩, ⟨hb1, hb2, hb3, by omega, by omega, by omega, ?_⟩⟩
        · rw [upd_ne (ne_of_none (o := .lst (ps.map V.int)) (by walk_at "SAT8") hn)]; walk_at "SAT8"
        · rw [upd_ne (ne_of_none (o := .lst (ls.map V.int)) (by walk_at "SAT8") hn)]; walk_at "SAT8"
        · rw [upd_ne (ne_of_none (o := .lst (rs.map V.int)) (by walk_at "SAT8") hn)]; walk_at "SAT8"
        · omega
      · exact ⟨p, span, _, _, _, rfl, (by walk_at "SAME8"), ⟨by walk_at "SAT8", by walk_at "SAT8", by walk_at "SAT8", by walk_at "SAT8"⟩, ⟨hb1, hb2, hb3, by omega, by omega, by omega, by omega⟩⟩
    clear hnear hnear2 hp0 hsp hsp2 he hs hn p H' nr hb1 hb2 hb3 span sp
    rintro σ1 H5 ⟨E, span, near, e0, e1, rfl, s5, gl, gb⟩
    obtain ⟨hb1, hb2, hb3, hb4, hb5, hb6, hb7⟩ := id gb
    walk_at "RD"
    refine ⟨by decide, fun M H6 nM s6 eM => ?_⟩
    intro U H7 nU s7 eU
    have nU5 : H5 U = none := s6.free nU
    have n0M : H M = none := s5.free nM
    refine ⟨_, rfl, many, rfl, by omega, by omega, for_range (n := many.toNat) (Wg a P L R E M U at' many (ns.getD at'.toNat 0) span near H5) ⟨[], [], [], none, none, none, none, none, none, rfl, s6.trans s7, ⟨s7.get eM, .nil, eU, rfl, Nat.le_refl _, fun z => by simp [valV], fun _ h => absurd h (by simp), by simp, fun _ h => absurd h (by simp)⟩⟩ ?_ ?_⟩
    · rintro i σ H8 hi ⟨as, gs, kvs, x1, x2, x3, x4, x5, x6, rfl, s8, gm⟩
      have gl8 := gl.same s8
      have eP8 := gl8.eP
      have eL8 := gl8.eL
      have eR8 := gl8.eR
      have eE8 := gl8.eE
      walk_at "RD"
      walk_at "AUTO"
      generalize hp0 : near + ps.getD (0 + (i : Int)).toNat 0 % span = p0
      have q1 := Int.emod_nonneg (ps.getD (0 + (i : Int)).toNat 0) (show span ≠ 0 by omega)
      have q2 := Int.emod_lt_of_pos (ps.getD (0 + (i : Int)).toNat 0) (show 0 < span by omega)
      have hl1 : near ≤ p0 := by omega
      have hl2 : p0 < near + span := by omega
      refine ⟨_, rfl, 0 + (i : Int), rfl, by omega, by omega, for_range (n := (0 + (i : Int)).toNat) (Wi a P L R E M U at' many (ns.getD at'.toNat 0) span near gs (0 + (i : Int)) p0 x4 x5 x6 H8) ⟨p0, x3, rfl, rfl, hl1, hl2, .inr ⟨?_, fun t ht => absurd ht (by omega)⟩⟩ ?_ ?_⟩
      · rw [show p0 - near + ((0 : Nat) : Int) = p0 - near by omega, Int.emod_eq_of_lt (by omega) (by omega)]; omega
      · rintro j σ H9 hj ⟨pl, y3, rfl, rfl, l1, l2, hor⟩
        walk_at "RD"
        refine ⟨_, DGet.k (k := Sum.inl pl) gm.eU, ?_⟩
        by_cases hu' : pl ∈ gs.map G.p
        · rw [if_pos ((gm.keys pl).mpr hu')]
          walk_at "AUTO"
          have r1 := Int.emod_nonneg (pl - near + 1) (show span ≠ 0 by omega)
          have r2 := Int.emod_lt_of_pos (pl - near + 1) (show 0 < span by omega)
          refine ⟨_, _, rfl, rfl, by omega, by omega, .inr ?_⟩
          rcases hor with z | ⟨z1, z2⟩
          · exact absurd hu' z
          · refine ⟨?_, fun t ht => ?_⟩
            · rw [z1, show near + (p0 - near + (j : Int)) % span - near + 1 = (p0 - near + (j : Int)) % span + 1 by omega, Int.emod_add_emod, show p0 - near + (j : Int) + 1 = p0 - near + ((j + 1 : Nat) : Int) by omega]
            · rcases (by omega : t < j ∨ t = j) with e | e
              · exact z2 t e
              · subst e; rw [← z1]; exact hu'
        · rw [if_neg (fun z => hu' ((gm.keys pl).mp z))]
          exact ⟨pl, _, rfl, rfl, l1, l2, .inl hu'⟩
      · rintro σ H9 ⟨pl, y3, rfl, rfl, l1, l2, hor⟩
        have hfree : pl ∉ gs.map G.p := by
          rcases hor with z | ⟨z1, z2⟩
          · exact z
          · intro hin
            have hlen : (gs.map G.p).length = i := by rw [List.length_map]; exact gm.len
            refine circle_free (near := near) (span := span) (o := p0 - near) (used := gs.map G.p) (by rw [hlen]; omega) fun t ht => ?_
            rw [hlen] at ht
            rcases (by omega : t < i ∨ t = i) with e | e
            · exact z2 t (by omega)
            · subst e
              rw [show (((0 + (t : Int)).toNat : Nat) : Int) = (t : Int) by omega] at z1
              rw [← z1]; exact hin
        dsimp only
        refine tSeq_gen fun Md hM => ?_
        walk_at "RD"
        refine ⟨_, DPut.k (k := Sum.inl pl) gm.eU (by rw [PySem.sizeLine_eq]; have := gm.kl; omega), ?_⟩
        refine hM _ _ ?_
        clear hM Md
        have hMU : M ≠ U := ne_of gm.eM gm.eU (by intro z; cases z)
        have s9 : Same H5 (upd H9 U (.dK (putK kvs (Sum.inl pl) (V.bl true)))) := s8.updFresh nU5
        have eM9 : upd H9 U (.dK (putK kvs (Sum.inl pl) (V.bl true))) M = some (.lst (as.map V.ref)) := by rw [upd_ne hMU]; exact gm.eM
        have eU9 : upd H9 U (.dK (putK kvs (Sum.inl pl) (V.bl true))) U = some (.dK (putK kvs (Sum.inl pl) (V.bl true))) := upd_same
        have at9 := gm.at_.upd (u := .dK (putK kvs (Sum.inl pl) (V.bl true))) gm.eU (by intro ys z; cases z)
        generalize upd H9 U (.dK (putK kvs (Sum.inl pl) (V.bl true))) = HA at s9 eM9 eU9 at9 ⊢
        have glA := gl.same s9
        have ePA := glA.eP
        have eLA := glA.eL
        have eRA := glA.eR
        have eEA := glA.eE
        clear eP8 eL8 eR8 eE8 gl8
        refine tSeq_gen fun Md hM => ?_
        walk_at "RD"
        walk_at "AUTO"
        refine hM _ _ ?_
        clear hM Md
        refine tSeq_gen fun Md hM => ?_
        delta sp_w_heights
        walk_at "AUTO"
        intro TT HB f h sB eB
        walk_at "AUTO"
        refine ⟨rfl, _, _, rfl, _, _, rfl, rfl, ?_⟩
        refine hM _ _ ?_
        clear hM Md
        refine ⟨Cf [some (V.ref a), some (V.int at'), some (V.int many), some (V.int (ns.getD at'.toNat 0)), some (V.int (ns.getD at'.toNat 0 / 2 % 5)), some (V.ref P), some (V.ref L), some (V.ref R), some (V.int span), some (V.int near), some (V.ref E), some (V.ref M), some (V.ref U), some (V.int (0 + (i : Int))), some (V.int pl), y3, some (V.int (e0 * (span - 1) + (e1 - e0) * (pl - near)))] HB, ?_, ?_⟩
        · walk_at "RD"
          split
          · walk_at "AUTO"
            split
            · walk_at "AUTO"
              exact ⟨_, _, rfl, rfl⟩
            · exact ⟨_, _, rfl, rfl⟩
          · exact ⟨_, _, rfl, rfl⟩
        rintro σ HB' ⟨f1, h1, rfl, rfl⟩
        walk_at "RD"
        have eMB := sB.get eM9
        have hff : ∃ f2 : Int, (if (if f1 < 1000 then f1 else 1000) > -1000 then if f1 < 1000 then f1 else 1000 else -1000) = f2 ∧ -1000 ≤ f2 ∧ f2 ≤ 1000 := ⟨_, rfl, by (repeat' split) <;> omega, by (repeat' split) <;> omega⟩
        obtain ⟨f2, ef2, f3, f4⟩ := hff
        rw [ef2]
        have hhh : ∃ h2 : Int, (if (if h1 < 1000 then h1 else 1000) > f2 then if h1 < 1000 then h1 else 1000 else f2) = h2 ∧ f2 ≤ h2 ∧ h2 ≤ 1000 := ⟨_, rfl, by (repeat' split) <;> omega, by (repeat' split) <;> omega⟩
        obtain ⟨h2, eh2, h3, h4⟩ := hhh
        rw [eh2]
        refine ⟨⟨_, eMB⟩, by decide, fun TP HC nC sC eC => ?_⟩
        have eMC := sC.get eMB
        have eUC := sC.get (sB.get eU9)
        have atC := (at9.same sB).same sC
        have sAll := (s9.trans sB).trans sC
        have lk := gm.kl
        have lg := gm.len
        have la := at9.len
        refine ⟨_, eMC, by rw [List.length_map, PySem.sizeLine_eq]; omega, as ++ [TP], gs ++ [⟨pl, f2, h2⟩], putK kvs (Sum.inl pl) (V.bl true), _, _, _, _, _, _, rfl, sAll.updFresh nM, ?_⟩
        have hkey : ∀ z : Int, (valV (putK kvs (Sum.inl pl : Key) (V.bl true)) (Sum.inl z)).isSome = true ↔ z ∈ (gs ++ [⟨pl, f2, h2⟩] : List G).map G.p := fun z => by
          rw [valV_put, List.map_append, List.mem_append]
          by_cases e : z = pl
          · subst e; simp
          · rw [if_neg (fun q => e (Sum.inl.inj q)), gm.keys z]
            simp [e]
        refine ⟨by rw [upd_same, List.map_append]; rfl, ?_, by rw [upd_ne (Ne.symm hMU)]; exact eUC, by rw [List.length_append, lg]; rfl, Nat.le_trans (length_putK ..) (by omega), hkey, fun g hg => ?_, ?_, fun g hg => ?_⟩
        · exact (atC.snoc (a := TP) (g := ⟨pl, f2, h2⟩) eC).upd eMC (by intro ys z; cases z)
        · rcases List.mem_append.mp hg with z | z
          · exact gm.ok g z
          · rw [List.mem_singleton.mp z]
            exact ⟨by show -1000 ≤ pl; omega, by show pl ≤ 1000; omega, f3, h3, h4⟩
        · rw [List.map_append]
          exact nd_snoc gm.nd hfree
        · rcases List.mem_append.mp hg with z | z
          · exact gm.stretch g z
          · rw [List.mem_singleton.mp z]
            exact ⟨l1, l2⟩
    · rintro σ H8 ⟨as, gs, kvs, x1, x2, x3, x4, x5, x6, rfl, s8, gm⟩
      walk_at "RD"
      exact k M _ as gs n0M (s5.trans s8) gm.eM gm.at_ gm.len gm.ok gm.nd
theorem sc_w_whole : FnScope ["_law_found"] ["_law_found"] (defScope s_w_whole) := by walk_at "SC"
def sp_w_whole : Sp := fun vs H Q _ => ∃ i : Int, vs = [.int i] ∧ Q (.bl true) H
theorem ok_w_whole (T : Tx K mg) : FnOk P w K mg base CX0 1 T.f_w_whole T.fd_w_whole ["_law_found"] sp_w_whole := by
  refine T.d_w_whole.F.ok sc_w_whole (fun vs H Q E h => ?_) (fun cdv A outer s H vs Q E hr h => ?_)
  · obtain ⟨i, rfl, hq⟩ := h
    rfl
  · obtain ⟨i, rfl, hq⟩ := h
    have hu := hu_of hr
    refine ⟨_, (pss_one (ps_ret (pe_and (pe_callB call_isinst (by rfl) T.z_isinstance bo_isinstance (pa_cons (pv 0) (pa_cons (pe_bltn (v := .ty "int") (by rfl) T.z_int bo_int rfl) pa_nil))) (pe_one (pe_not (pe_callB call_isinst (by rfl) T.z_isinstance bo_isinstance (pa_cons (pv 0) (pa_cons (pe_bltn (v := .ty "bool") (by rfl) T.z_bool bo_bool rfl) pa_nil)))))))), ?_⟩
    walk_at "RD"
    refine ⟨_, .int i, true, rfl, ?_⟩
    rw [if_pos rfl]
    exact ⟨_, .int i, false, rfl, hq⟩
theorem sc_w_numbers : FnScope ["_law_found", "_law_due", "_law_k"] ["_law_found", "_law_due"] (defScope s_w_numbers) := by walk_at "SC"
def sp_w_numbers (K : PySem.W.Frag) : Sp := fun vs H Q _ => ∃ (x y : Addr) (xs : List Int), vs = [.ref x, .ref y] ∧ H x = some (.tup (xs.map V.int)) ∧ SqT K H y (xs.map V.int) ∧ xs.length ≤ 1000 ∧ Q (.bl true) H
def W_num (x y : Addr) (H : Hp) : Nat → St → Hp → Prop := fun i σ H' => ∃ k, σ = [some (.ref x), some (.ref y), k] ∧ H' = H
theorem ok_w_numbers (T : Tx K mg) : FnOk P w K mg base CX0 2 T.f_w_numbers T.fd_w_numbers ["_law_found", "_law_due"] (sp_w_numbers K) := by
  refine T.d_w_numbers.F.ok sc_w_numbers (fun vs H Q E h => ?_) (fun cdv A outer s H vs Q E hr h => ?_)
  · obtain ⟨x, y, xs, rfl, ex, ey, hl, k⟩ := h
    rfl
  · obtain ⟨x, y, xs, rfl, ex, ey, hl, k⟩ := h
    have hu := hu_of hr
    refine ⟨_, (pss_cons (ps_if (pw_or (pt_not (pt_val (pe_callB call_isinst (by rfl) T.z_isinstance bo_isinstance (pa_cons (pv 0) (pa_cons (pe_bltn (v := .ty "tuple") (by rfl) T.z_tuple bo_tuple rfl) pa_nil))))) (pw_or1 (pt_cmpR op_ne (pe_callB call_len_seq (by rfl) T.z_len bo_len (pa_cons (pv 0) pa_nil)) (pe_callB call_len_seq (by rfl) T.z_len bo_len (pa_cons (pv 1) pa_nil)) (nomark _)))).pt (pss_one (ps_ret pe_bl))
        pss_nil)
      (pss_cons (ps_for PassesOwn.never rfl (pi_range1 (by rfl) T.z_range (pa_cons (pe_callB call_len_seq (by rfl) T.z_len bo_len (pa_cons (pv 1) pa_nil)) pa_nil)) (pg_name (i := 2) sc_w_numbers.nd rfl (by walk_at "O"))
        (pss_one (ps_if (pw_or (pt_not (pt_val (pe_call (ok_w_whole T) (hr.mono (by decide)) (by rfl) T.d_w_whole.m T.d_w_whole.F.kp T.d_w_whole.b .nil pass0 (pa_cons (pe_ix ix_tup (pv 0) (pv 2) (fun _ _ => rfl)) pa_nil)))) (pw_or1 (pt_cmpR op_ne (pe_ix ix_tup (pv 0) (pv 2) (fun _ _ => rfl)) (pe_ix ix_tup (pv 1) (pv 2) (fun _ _ => rfl)) (nomark _)))).pt (pss_one (ps_ret pe_bl))
            pss_nil)))
      (pss_one (ps_ret pe_bl)))), ?_⟩
    walk_at "RD"
    walk_at "AUTO"
    refine ⟨_, rfl, _, rfl, _, Or.inr ey, ((xs.map V.int).length : Int), rfl, by rw [List.length_map]; omega, by rw [List.length_map]; omega, for_range (n := (((xs.map V.int).length : Nat) : Int).toNat) (W_num x y H) ⟨none, rfl, rfl⟩ ?_ ?_⟩
    · rintro i σ H1 hi ⟨k', rfl, rfl⟩
      rw [List.length_map] at hi
      delta sp_w_whole
      walk_at "AUTO"
      exact ⟨_, rfl, rfl⟩
    · rintro σ H1 ⟨k', rfl, rfl⟩
      walk_at "RD"
      exact k
theorem sc_w_would : FnScope ["_law_stands", "_law_deed_here", "_law_word", "_law_place", "_law_one", "_law_two", "_law_foot", "_law_head"] ["_law_stands", "_law_deed_here"] (defScope s_w_would) := by walk_at "SC"
def sp_w_would (K : PySem.W.Frag) : Sp := fun vs H Q _ => ∃ (d q : Addr) (w : Str) (p x y : Int) (gs : List G), vs = [.ref d, .ref q] ∧ SqT K H q [.str w, .int p, .int x, .int y] ∧ DkAt H d gs ∧ ∀ D H', H D = none → Same H H' → H' D = some (.tup [.int p, .int (would w gs p x y).1, .int (would w gs p x y).2]) → Q (.ref D) H'
theorem ok_w_would (T : Tx K mg) : FnOk P w K mg base CX0 1 T.f_w_would T.fd_w_would ["_law_stands", "_law_deed_here"] (sp_w_would K) := by
  refine T.d_w_would.F.ok sc_w_would (fun vs H Q E h => ?_) (fun cdv A outer s H vs Q E hr h => ?_)
  · obtain ⟨d, q, w, p, x, y, gs, rfl, hq, hd, k⟩ := h
    rfl
  · obtain ⟨d, q, w, p, x, y, gs, rfl, hq, hd, k⟩ := h
    have hu := hu_of hr
    refine ⟨_, (pss_cons (ps_asg (pv 1) (pg_tup (n := 4) rfl (pgs_cons (pg_name (i := 2) sc_w_would.nd rfl (by walk_at "O")) (pgs_cons (pg_name (i := 3) sc_w_would.nd rfl (by walk_at "O")) (pgs_cons (pg_name (i := 4) sc_w_would.nd rfl (by walk_at "O")) (pgs_cons (pg_name (i := 5) sc_w_would.nd rfl (by walk_at "O")) pgs_nil))))))
      (pss_cons (ps_if (pt_cmpR op_eq (pv 2) pe_str (nomark _)) (pss_one (ps_ret (pe_tupS (pa_cons (pv 3) (pa_cons (pv 4) (pa_cons (pv 5) pa_nil))))))
        pss_nil)
      (pss_cons (ps_asg (pe_dget2 hu (pv 0) (pv 3) (pe_tupS (pa_cons pe_int (pa_cons pe_int pa_nil))) ⟨rfl, rfl, rfl, rfl⟩) (pg_tup (n := 2) rfl (pgs_cons (pg_name (i := 6) sc_w_would.nd rfl (by walk_at "O")) (pgs_cons (pg_name (i := 7) sc_w_would.nd rfl (by walk_at "O")) pgs_nil))))
      (pss_cons (ps_if (pt_cmpR op_eq (pv 2) pe_str (nomark _)) (pss_one (ps_ret (pe_tupS (pa_cons (pv 3) (pa_cons (pe_op op_add (pv 6) (pv 4)) (pa_cons (pe_op op_add (pv 7) (pv 5)) pa_nil))))))
        pss_nil)
      (pss_cons (ps_if (pt_cmpR op_eq (pv 2) pe_str (nomark _)) (pss_one (ps_ret (pe_tupS (pa_cons (pv 3) (pa_cons (pe_op op_sub (pv 6) (pv 4)) (pa_cons (pe_op op_sub (pv 7) (pv 5)) pa_nil))))))
        pss_nil)
      (pss_one (ps_ret (pe_tupS (pa_cons (pv 3) (pa_cons (pv 6) (pa_cons (pv 7) pa_nil))))))))))), ?_⟩
    unfold would at k
    refine ⟨_, rfl, q, _, rfl, hq, rfl, _, _, rfl, _, _, rfl, _, _, rfl, _, _, rfl, rfl, ?_⟩
    dsimp only
    walk_at "Q"
    walk_at "RD"
    by_cases h1 : w = "put"
    · rw [if_pos h1] at k
      rw [if_pos (decide_eq_true h1)]
      exact ⟨by decide, k⟩
    rw [if_neg h1] at k
    rw [if_neg (fun z => h1 (of_decide_eq_true z))]
    walk_at "NX"
    walk_at "Q"
    walk_at "RD"
    refine ⟨hd.isD, by decide, fun z0 H1 n1 s1 e1 => ?_⟩
    obtain ⟨o, gt, hn, hs⟩ := (hd.same s1).get p
    have hv : ∃ a f h, o.getD (V.ref z0) = V.ref a ∧ H1 a = some (.tup [.int f, .int h]) ∧ (gateOf gs p).elim 0 G.f = f ∧ (gateOf gs p).elim 0 G.h = h := by
      cases hg : gateOf gs p with
      | none => rw [hn hg]; exact ⟨z0, 0, 0, rfl, e1, rfl, rfl⟩
      | some g => obtain ⟨a, rfl, ea⟩ := hs g hg; exact ⟨a, g.f, g.h, rfl, ea, rfl, rfl⟩
    obtain ⟨a, f, h, ea, et, ef, eh⟩ := hv
    rw [ef, eh] at k
    refine ⟨o, gt, a, ea, _, SqT.of et, rfl, _, _, rfl, _, _, rfl, rfl, ?_⟩
    walk_at "NX"
    walk_at "Q"
    walk_at "RD"
    by_cases h2 : w = "lift"
    · rw [if_pos h2] at k
      rw [if_pos (decide_eq_true h2)]
      first | exact ⟨by decide, fun D H' n s e => k D H' (s1.free n) (s1.trans s) e⟩ | exact ⟨_, rfl, _, rfl, by decide, fun D H' n s e => k D H' (s1.free n) (s1.trans s) e⟩
    rw [if_neg h2] at k
    rw [if_neg (fun z => h2 (of_decide_eq_true z))]
    walk_at "NX"
    walk_at "Q"
    walk_at "RD"
    by_cases h3 : w = "sink"
    · rw [if_pos h3] at k
      rw [if_pos (decide_eq_true h3)]
      first | exact ⟨by decide, fun D H' n s e => k D H' (s1.free n) (s1.trans s) e⟩ | exact ⟨_, rfl, _, rfl, by decide, fun D H' n s e => k D H' (s1.free n) (s1.trans s) e⟩
    rw [if_neg h3] at k
    rw [if_neg (fun z => h3 (of_decide_eq_true z))]
    walk_at "NX"
    walk_at "RD"
    exact ⟨by decide, fun D H' n s e => k D H' (s1.free n) (s1.trans s) e⟩
theorem sc_w_refusal : FnScope ["_law_stands", "_law_past", "_law_deed_here", "_law_word", "_law_place", "_law_one", "_law_two", "_law_gate"] ["_law_stands", "_law_past", "_law_deed_here"] (defScope s_w_refusal) := by walk_at "SC"
def sp_w_refusal {K : PySem.W.Frag} {mg : Str → Option Value} (T : Tx K mg) : Sp := fun vs H Q _ => ∃ (b S P : Addr) (ow : List Addr) (gs : List G) (past : List (List G)) (D L q : Addr) (w : Str) (p x y : Int), vs = [.ref D, .ref L, .ref q] ∧ SqT K H q [.str w, .int p, .int x, .int y] ∧ Wd T.C_Beach H b S P ow gs past D L ∧ Wrd w ∧ ∀ H', Same H H' → Q (.str (errS (deedE w gs past p x y))) H'
theorem ok_w_refusal (T : Tx K mg) : FnOk P w K mg base CX0 2 T.f_w_refusal T.fd_w_refusal ["_law_stands", "_law_past", "_law_deed_here"] (sp_w_refusal T) := by
  refine T.d_w_refusal.F.ok sc_w_refusal (fun vs H Q E h => ?_) (fun cdv A outer s H vs Q E hr h => ?_)
  · obtain ⟨b, S, P, ow, gs, past, D, L, q, w, p, x, y, rfl, hq, hw, wd, k⟩ := h
    rfl
  · obtain ⟨b, S, P, ow, gs, past, D, L, q, w, p, x, y, rfl, hq, hw, wd, k⟩ := h
    have hu := hu_of hr
    refine ⟨_, (pss_cons (ps_asg (pv 2) (pg_tup (n := 4) rfl (pgs_cons (pg_name (i := 3) sc_w_refusal.nd rfl (by walk_at "O")) (pgs_cons (pg_name (i := 4) sc_w_refusal.nd rfl (by walk_at "O")) (pgs_cons (pg_name (i := 5) sc_w_refusal.nd rfl (by walk_at "O")) (pgs_cons (pg_name (i := 6) sc_w_refusal.nd rfl (by walk_at "O")) pgs_nil))))))
      (pss_cons (ps_if (pt_cmpR op_eq (pv 3) pe_str (nomark _)) (pss_cons (ps_if (pt_cmpR op_lt (pv 4) pe_int (nomark _)) (pss_one (ps_ret pe_str))
            pss_nil)
          (pss_one (ps_ret (pe_ix ix_list (pe_lstS (pa_cons pe_str (pa_cons pe_str pa_nil))) (pe_callTy call_intB (by rfl) T.z_int bo_int (pa_cons (pe_cmpR op_gt (pv 4) (pe_callB call_len_seq (by rfl) T.z_len bo_len (pa_cons (pv 1) pa_nil)) (nomark _)) pa_nil)) (fun _ _ => rfl)))))
        pss_nil)
      (pss_cons (ps_if (pw_and (pt_cmpR op_eq (pv 3) pe_str (nomark _)) (pw_and1 (pt_cmp (pc_din hu (pv 4) (pv 0))))).pt (pss_one (ps_ret pe_str))
        pss_nil)
      (pss_cut (ps_if (pw_and (pt_cmpR op_ne (pv 3) pe_str (nomark _)) (pw_and1 (pt_cmp (pc_dnotin hu (pv 4) (pv 0))))).pt (pss_one (ps_ret pe_str))
        pss_nil)
      (pss_cons (ps_set (i := 7) sc_w_refusal.nd rfl (by walk_at "O") (pe_call (ok_w_would T) (hr.mono (by decide)) (by rfl) T.d_w_would.m T.d_w_would.F.kp T.d_w_would.b .nil pass0 (pa_cons (pv 0) (pa_cons (pv 2) pa_nil))))
      (pss_cons (ps_if (pt_cmpR op_gt (pe_ix ix_tup (pv 7) pe_int (fun _ _ => rfl)) (pe_ix ix_tup (pv 7) pe_int (fun _ _ => rfl)) (nomark _)) (pss_one (ps_ret pe_str))
        pss_nil)
      (pss_cons (ps_if (pt_cmpR op_gt (pe_callB (call_max3 (by rfl)) (by rfl) T.z_max bo_max (pa_cons (pe_callB call_abs (by rfl) T.z_abs bo_abs (pa_cons (pe_ix ix_tup (pv 7) pe_int (fun _ _ => rfl)) pa_nil)) (pa_cons (pe_callB call_abs (by rfl) T.z_abs bo_abs (pa_cons (pe_ix ix_tup (pv 7) pe_int (fun _ _ => rfl)) pa_nil)) (pa_cons (pe_callB call_abs (by rfl) T.z_abs bo_abs (pa_cons (pe_ix ix_tup (pv 7) pe_int (fun _ _ => rfl)) pa_nil)) pa_nil)))) pe_int (nomark _)) (pss_one (ps_ret pe_str))
        pss_nil)
      (pss_cons (ps_if (pw_and (pt_cmpR op_eq (pv 3) pe_str (nomark _)) (pw_and1 (pt_cmpR op_ge (pe_callB call_lenD (by rfl) T.z_len bo_len (pa_cons (pv 0) pa_nil)) pe_int (nomark _)))).pt (pss_one (ps_ret pe_str))
        pss_nil)
      (pss_cons (ps_if (pt_cmpR op_ge (pe_callB call_len_seq (by rfl) T.z_len bo_len (pa_cons (pv 1) pa_nil)) pe_int (nomark _)) (pss_one (ps_ret pe_str))
        pss_nil)
      (pss_one (ps_ret pe_str))))))))))), ?_⟩
    obtain ⟨o, gt, hn, hs⟩ := hw.dk.get p
    have ho := dk_some_iff (H := H) (D := D) hn hs
    obtain ⟨xs, eL, lL⟩ := hw.plen
    obtain ⟨kvs, eD, lD⟩ := hw.dk.len
    refine ⟨_, rfl, q, _, rfl, hq, rfl, _, _, rfl, _, _, rfl, _, _, rfl, _, _, rfl, rfl, ?_⟩
    dsimp only
    walk_at "Q"
    walk_at "RD"
    by_cases nb : w = "back"
    · rw [if_pos (decide_eq_true nb)]
      unfold deedE backE at k
      rw [if_pos nb] at k
      by_cases h1 : p < 1
      · rw [if_pos h1] at k
        rw [if_pos (decide_eq_true h1)]
        exact k _ (Same.refl _)
      rw [if_neg h1] at k
      rw [if_neg (fun z => h1 (of_decide_eq_true z))]
      refine ⟨by decide, fun z0 H1 n1 s1 e1 => ⟨_, .inl (SqL.of (s1.get eL)), _, SqL.of e1, ?_⟩⟩
      rw [lL]
      by_cases h2 : (past.length : Int) < p
      · rw [if_pos h2] at k
        rw [if_pos (decide_eq_true h2)]
        exact ⟨_, rfl, k _ s1⟩
      · rw [if_neg h2] at k
        rw [if_neg (fun z => h2 (of_decide_eq_true z))]
        exact ⟨_, rfl, k _ s1⟩
    rw [if_neg (fun z => nb (of_decide_eq_true z))]
    walk_at "NX"
    walk_at "RD"
    have hd1 := deedE_one (gs := gs) (past := past) (p := p) (x := x) (y := y) wd nb
    refine ifTaken gt (fun hp ho' => ?_) (fun hB => ?_)
    · rw [ho] at ho'
      rw [hd1.1 hp (of_decide_eq_true ho')] at k
      exact k _ (Same.refl _)
    refine ⟨fun σ' H' => σ' = [some (.ref D), some (.ref L), some (.ref q), some (.str w), some (.int p), some (.int x), some (.int y), none] ∧ H' = H ∧ (w = "put" → p ∉ places gs) ∧ (w ≠ "put" → p ∈ places gs), ?_, ?_⟩
    · walk_at "RD"
      by_cases hp : w = "put"
      · rw [if_neg (by simp [hp])]
        exact ⟨fun z => by have := hB hp; rw [ho] at this; exact of_decide_eq_false this, fun z => absurd hp z⟩
      · rw [if_pos (by simp [hp])]
        refine ⟨o, gt, ?_⟩
        rw [ho]
        by_cases hm : p ∈ places gs
        · rw [if_neg (by simp [hm])]
          exact ⟨fun z => absurd z hp, fun _ => hm⟩
        · rw [if_pos (by simp [hm])]
          rw [hd1.2 hp hm] at k
          exact k _ (Same.refl _)
    rintro σ' H' ⟨rfl, rfl, t1, t2⟩
    have de := deedE_tail (past := past) (x := x) (y := y) wd nb t1 t2 hw.bch.std
    rw [de] at k
    walk_at "Q"
    walk_at "RD"
    refine ⟨D, q, w, p, x, y, gs, rfl, hq, hw.dk, fun g H1 n1 s1 e1 => ?_⟩
    walk_at "NX"
    generalize (would w gs p x y).1 = wf at *
    generalize (would w gs p x y).2 = wh at *
    walk_at "RD"
    walk_at "AUTO"
    unfold gateE deedsE at k
    by_cases h1 : wh < wf
    · rw [if_pos h1] at k
      rw [if_pos (decide_eq_true h1)]
      exact k _ s1
    rw [if_neg h1] at k
    rw [if_neg (fun z => h1 (of_decide_eq_true z))]
    refine ⟨_, SqT.of e1, _, rfl, _, rfl, _, SqT.of e1, _, rfl, _, rfl, _, SqT.of e1, _, rfl, _, rfl, fun m hm => ?_⟩
    have hm1 := hm 1000
    by_cases h2 : InB p ∧ InB wf ∧ InB wh
    · have hle : m ≤ 1000 := hm1.mpr ⟨by split <;> omega, by split <;> omega, by split <;> omega⟩
      rw [if_neg (fun z => by have := of_decide_eq_true z; omega)]
      rw [if_pos h2] at k
      have tail : (∀ X, Same H' X → Q (.str (errS (if 300 ≤ past.length then some .deeds else none))) X) → ∃ x, (SqL K H1 L x ∨ SqT K H1 L x) ∧ if decide (300 ≤ (x.length : Int)) = true then Q (V.str (Str.ofString "deeds full")) H1 else Q (V.str (Str.ofString "")) H1 := fun k => by
        refine ⟨_, .inl (SqL.of (s1.get eL)), ?_⟩
        rw [lL]
        by_cases h5 : 300 ≤ past.length
        · rw [if_pos h5] at k
          rw [if_pos (decide_eq_true (by omega))]
          exact k _ s1
        · rw [if_neg h5] at k
          rw [if_neg (fun z => h5 (by have := of_decide_eq_true z; omega))]
          exact k _ s1
      by_cases h3 : w = "put"
      · rw [if_pos (decide_eq_true h3)]
        refine ⟨kvs, s1.get eD, ?_⟩
        rw [lD]
        by_cases h4 : 40 ≤ gs.length
        · rw [if_pos ⟨h3, h4⟩] at k
          rw [if_pos (decide_eq_true (by omega))]
          exact k _ s1
        · rw [if_neg (fun z => h4 z.2)] at k
          rw [if_neg (fun z => h4 (by have := of_decide_eq_true z; omega))]
          exact tail k
      · rw [if_neg (fun z => h3 z.1)] at k
        rw [if_neg (fun z => h3 (of_decide_eq_true z))]
        exact tail k
    · rw [if_neg h2] at k
      rw [if_pos (decide_eq_true (by
        by_cases z : 1000 < m
        · exact z
        · exfalso
          apply h2
          obtain ⟨q1, q2, q3⟩ := hm1.mp (by omega)
          refine ⟨⟨?_, ?_⟩, ⟨?_, ?_⟩, ?_, ?_⟩ <;> (revert q1 q2 q3; split <;> split <;> split <;> omega)))]
      exact k _ s1
theorem sc_w_done : FnScope ["_law_beach", "_law_deed_here", "_law_word", "_law_place", "_law_one", "_law_two", "_law_told"] ["_law_beach", "_law_deed_here"] (defScope s_w_done) := by walk_at "SC"
def sp_w_done {K : PySem.W.Frag} {mg : Str → Option Value} (T : Tx K mg) : Sp := fun vs H Q _ => ∃ (b S P : Addr) (ow : List Addr) (gs : List G) (past : List (List G)) (q : Addr) (w : Str) (p x y : Int), vs = [.ref b, .ref q] ∧ SqT K H q [.str w, .int p, .int x, .int y] ∧ Bch T.C_Beach H b S P ow gs past ∧ Wrd w ∧ (∀ e, deedE w gs past p x y = some e → ∀ D H', H D = none → Same H H' → H' D = some (.lst [.bl false, .str (errT e)]) → Q (.ref D) H') ∧ (deedE w gs past p x y = none → ∀ D H' S' P' ow' v, H D = none → Kp b P H H' → Bch T.C_Beach H' b S' P' ow' (deedG w gs past p x y) (deedP w gs past p) → (∀ a ∈ ow', a ∈ ow ∨ H a = none) → (∃ u, H' P = some u) → D ∉ ow' → H' D = some (.lst [.bl true, v]) → (w = "back" → v = .int ((deedP w gs past p).length : Int)) → (w ≠ "back" → ∃ t, v = .ref t ∧ H' t = some (.tup [.int p, .int (would w gs p x y).1, .int (would w gs p x y).2])) → Q (.ref D) H')
theorem ok_w_done (T : Tx K mg) : FnOk P w K mg base CX0 4 T.f_w_done T.fd_w_done ["_law_beach", "_law_deed_here"] (sp_w_done T) := by
  refine T.d_w_done.F.ok sc_w_done (fun vs H Q E h => ?_) (fun cdv A outer s H vs Q E hr h => ?_)
  · obtain ⟨b, S, P, ow, gs, past, q, w, p, x, y, rfl, hq, hb, wd, kE, k⟩ := h
    rfl
  · obtain ⟨b, S, P, ow, gs, past, q, w, p, x, y, rfl, hq, hb, wd, kE, k⟩ := h
    have hu := hu_of hr
    refine ⟨_, (pss_cons (ps_asg (pv 1) (pg_tup (n := 4) rfl (pgs_cons (pg_name (i := 2) sc_w_done.nd rfl (by walk_at "O")) (pgs_cons (pg_name (i := 3) sc_w_done.nd rfl (by walk_at "O")) (pgs_cons (pg_name (i := 4) sc_w_done.nd rfl (by walk_at "O")) (pgs_cons (pg_name (i := 5) sc_w_done.nd rfl (by walk_at "O")) pgs_nil))))))
      (pss_cons (ps_set (i := 6) sc_w_done.nd rfl (by walk_at "O") pe_str)
      (pss_cut (ps_try rfl rfl (fun _ _ _ hp => (pss_cons (ps_if (pt_cmpR op_eq (pv 2) pe_str (nomark _)) (pss_one (ps_ret (pe_lstS (pa_cons pe_bl (pa_cons (pe_methX (pv 0) T.cl_Beach T.d_Beach_put.mt (ok_Beach_put T) (hr.mono (by decide)) T.d_Beach_put.b .nil hp (pa_cons (pv 3) (pa_cons (pv 4) (pa_cons (pv 5) pa_nil)))) pa_nil)))))
              pss_nil)
            (pss_cons (ps_if (pt_cmpR op_eq (pv 2) pe_str (nomark _)) (pss_one (ps_ret (pe_lstS (pa_cons pe_bl (pa_cons (pe_methX (pv 0) T.cl_Beach T.d_Beach_take.mt (ok_Beach_take T) (hr.mono (by decide)) T.d_Beach_take.b .nil hp (pa_cons (pv 3) pa_nil)) pa_nil)))))
              pss_nil)
            (pss_cons (ps_if (pt_cmpR op_eq (pv 2) pe_str (nomark _)) (pss_one (ps_ret (pe_lstS (pa_cons pe_bl (pa_cons (pe_methX (pv 0) T.cl_Beach T.d_Beach_lift.mt (ok_Beach_lift T) (hr.mono (by decide)) T.d_Beach_lift.b .nil hp (pa_cons (pv 3) (pa_cons (pv 4) (pa_cons (pv 5) pa_nil)))) pa_nil)))))
              pss_nil)
            (pss_cons (ps_if (pt_cmpR op_eq (pv 2) pe_str (nomark _)) (pss_one (ps_ret (pe_lstS (pa_cons pe_bl (pa_cons (pe_methX (pv 0) T.cl_Beach T.d_Beach_sink.mt (ok_Beach_sink T) (hr.mono (by decide)) T.d_Beach_sink.b .nil hp (pa_cons (pv 3) (pa_cons (pv 4) (pa_cons (pv 5) pa_nil)))) pa_nil)))))
              pss_nil)
            (pss_cons (ps_if (pw_and (pt_cmpR op_eq (pv 3) pe_int (nomark _)) (pw_and1 (pt_cmpR op_eq (pv 4) pe_int (nomark _)))).pt (pss_one (ps_ret (pe_lstS (pa_cons pe_bl (pa_cons (pe_methX0 (pv 0) T.cl_Beach T.d_Beach_back.mt (ok_Beach_back T) (hr.mono (by decide)) T.d_Beach_back.bd.choose_spec.2 T.d_Beach_back.bd.choose_spec.1 hp) pa_nil)))))
              pss_nil)
            (pss_one (ps_ret (pe_lstS (pa_cons pe_bl (pa_cons (pe_methX (pv 0) T.cl_Beach T.d_Beach_back.mt (ok_Beach_back T) (hr.mono (by decide)) T.d_Beach_back.b .nil hp (pa_cons (pv 3) pa_nil)) pa_nil)))))))))))
        (PHs.cons (by rfl) T.m_NoGate (by decide) (fun _ _ => (pss_one (ps_set (i := 6) sc_w_done.nd rfl (by walk_at "O") pe_str))) (PHs.cons (by rfl) T.m_Taken (by decide) (fun _ _ => (pss_one (ps_set (i := 6) sc_w_done.nd rfl (by walk_at "O") pe_str))) (PHs.cons (by rfl) T.m_UpsideDown (by decide) (fun _ _ => (pss_one (ps_set (i := 6) sc_w_done.nd rfl (by walk_at "O") pe_str))) (PHs.cons (by rfl) T.m_OutOfBounds (by decide) (fun _ _ => (pss_one (ps_set (i := 6) sc_w_done.nd rfl (by walk_at "O") pe_str))) (PHs.cons (by rfl) T.m_BeachFull (by decide) (fun _ _ => (pss_one (ps_set (i := 6) sc_w_done.nd rfl (by walk_at "O") pe_str))) (PHs.cons (by rfl) T.m_DeedsFull (by decide) (fun _ _ => (pss_one (ps_set (i := 6) sc_w_done.nd rfl (by walk_at "O") pe_str))) (PHs.cons (by rfl) T.m_NothingBack (by decide) (fun _ _ => (pss_one (ps_set (i := 6) sc_w_done.nd rfl (by walk_at "O") pe_str))) PHs.nil))))))))
      (pss_one (ps_ret (pe_lstS (pa_cons pe_bl (pa_cons (pv 6) pa_nil)))))))), ?_⟩
    obtain ⟨dx, eb⟩ := hb.at_
    refine ⟨_, rfl, q, _, rfl, hq, rfl, _, _, rfl, _, _, rfl, _, _, rfl, _, _, rfl, rfl, ?_⟩
    walk_at "RD"
    refine ⟨fun σ' H' => ∃ e, deedE w gs past p x y = some e ∧ Same H H' ∧ σ' = [some (.ref b), some (.ref q), some (.str w), some (.int p), some (.int x), some (.int y), some (.str (errT e))], ?_, ?_⟩
    · refine tTry_gen fun N hN => ?_
      have hE : ∀ e H', deedE w gs past p x y = some e → isDeed e = true → Same H H' → N (T.err e) [some (V.ref b), some (V.ref q), some (V.str w), some (V.int p), some (V.int x), some (V.int y), some (V.str (Str.ofString ""))] H' := fun e H' he hd s => by
        refine hN _ _ _ ?_
        cases e <;> first
          | exact absurd hd Bool.false_ne_true
          | (simp only [tHs, Tx.err, T.x_NoGate_NoGate, T.x_NoGate_Taken, T.x_NoGate_UpsideDown, T.x_NoGate_OutOfBounds, T.x_NoGate_BeachFull, T.x_NoGate_DeedsFull, T.x_NoGate_NothingBack, T.x_Taken_NoGate, T.x_Taken_Taken, T.x_Taken_UpsideDown, T.x_Taken_OutOfBounds, T.x_Taken_BeachFull, T.x_Taken_DeedsFull, T.x_Taken_NothingBack, T.x_UpsideDown_NoGate, T.x_UpsideDown_Taken, T.x_UpsideDown_UpsideDown, T.x_UpsideDown_OutOfBounds, T.x_UpsideDown_BeachFull, T.x_UpsideDown_DeedsFull, T.x_UpsideDown_NothingBack, T.x_OutOfBounds_NoGate, T.x_OutOfBounds_Taken, T.x_OutOfBounds_UpsideDown, T.x_OutOfBounds_OutOfBounds, T.x_OutOfBounds_BeachFull, T.x_OutOfBounds_DeedsFull, T.x_OutOfBounds_NothingBack, T.x_BeachFull_NoGate, T.x_BeachFull_Taken, T.x_BeachFull_UpsideDown, T.x_BeachFull_OutOfBounds, T.x_BeachFull_BeachFull, T.x_BeachFull_DeedsFull, T.x_BeachFull_NothingBack, T.x_DeedsFull_NoGate, T.x_DeedsFull_Taken, T.x_DeedsFull_UpsideDown, T.x_DeedsFull_OutOfBounds, T.x_DeedsFull_BeachFull, T.x_DeedsFull_DeedsFull, T.x_DeedsFull_NothingBack, T.x_NothingBack_NoGate, T.x_NothingBack_Taken, T.x_NothingBack_UpsideDown, T.x_NothingBack_OutOfBounds, T.x_NothingBack_BeachFull, T.x_NothingBack_DeedsFull, T.x_NothingBack_NothingBack, T.x_BadList_NoGate, T.x_BadList_Taken, T.x_BadList_UpsideDown, T.x_BadList_OutOfBounds, T.x_BadList_BeachFull, T.x_BadList_DeedsFull, T.x_BadList_NothingBack, T.x_TooFew_NoGate, T.x_TooFew_Taken, T.x_TooFew_UpsideDown, T.x_TooFew_OutOfBounds, T.x_TooFew_BeachFull, T.x_TooFew_DeedsFull, T.x_TooFew_NothingBack, Option.some.injEq, exists_eq_left', if_true, Bool.false_eq_true, if_false, tAsg, gName, tC, List.set_cons_zero, List.set_cons_succ]
             exact ⟨_, he, s, rfl⟩)
      clear hN
      delta tMethX
      by_cases h_put : w = "put"
      · rw [if_pos (decide_eq_true h_put)]
        refine ⟨dx, _, eb, rfl, b, S, P, ow, gs, past, p, x, y, rfl, hb, fun e he H' s => hE e H' ((deedE_put h_put).trans he) (putE_is he) s, fun  hno H' S' ow' D kp hb' ho eD => ⟨by decide, fun D2 H2 n2 s2 e2 => ?_⟩⟩
        have nb : w ≠ "back" := by rw [h_put]; decide
        refine k ((deedE_put h_put).trans hno) D2 H2 S' P ow' _ (kp.free hb'.live.1 hb'.live.2 n2) (kp.trans (Kp.of s2)) ?_ ho (hb'.live.2.imp fun _ z => s2.get z) (hb'.off n2) e2 (fun z => absurd z nb) fun _ => ⟨D, rfl, ?_⟩
        · rw [deedG_on nb (by rw [h_put]; decide), deedP_on nb, would_put h_put]
          exact hb'.same s2
        · rw [would_put h_put]
          exact s2.get (eD)
      rw [if_neg (fun z => h_put (of_decide_eq_true z))]
      by_cases h_take : w = "take"
      · rw [if_pos (decide_eq_true h_take)]
        refine ⟨dx, _, eb, rfl, b, S, P, ow, gs, past, p, rfl, hb, fun e he H' s => hE e H' ((deedE_take h_take).trans he) (takeE_is he) s, fun g hg hno H' S' ow' D kp hb' ho eD => ⟨by decide, fun D2 H2 n2 s2 e2 => ?_⟩⟩
        have nb : w ≠ "back" := by rw [h_take]; decide
        refine k ((deedE_take h_take).trans hno) D2 H2 S' P ow' _ (kp.free hb'.live.1 hb'.live.2 n2) (kp.trans (Kp.of s2)) ?_ ho (hb'.live.2.imp fun _ z => s2.get z) (hb'.off n2) e2 (fun z => absurd z nb) fun _ => ⟨D, rfl, ?_⟩
        · rw [deedG_take h_take, deedP_on nb]
          exact hb'.same s2
        · rw [would_take h_take hg]
          exact s2.get ((gateOf_some hg).2 ▸ eD)
      rw [if_neg (fun z => h_take (of_decide_eq_true z))]
      by_cases h_lift : w = "lift"
      · rw [if_pos (decide_eq_true h_lift)]
        refine ⟨dx, _, eb, rfl, b, S, P, ow, gs, past, p, x, y, rfl, hb, fun e he H' s => hE e H' ((deedE_lift h_lift).trans he) (liftE_is he) s, fun g hg hno H' S' ow' D kp hb' ho eD => ⟨by decide, fun D2 H2 n2 s2 e2 => ?_⟩⟩
        have nb : w ≠ "back" := by rw [h_lift]; decide
        refine k ((deedE_lift h_lift).trans hno) D2 H2 S' P ow' _ (kp.free hb'.live.1 hb'.live.2 n2) (kp.trans (Kp.of s2)) ?_ ho (hb'.live.2.imp fun _ z => s2.get z) (hb'.off n2) e2 (fun z => absurd z nb) fun _ => ⟨D, rfl, ?_⟩
        · rw [deedG_on nb (by rw [h_lift]; decide), deedP_on nb, would_lift h_lift hg]
          exact hb'.same s2
        · rw [would_lift h_lift hg]
          exact s2.get (eD)
      rw [if_neg (fun z => h_lift (of_decide_eq_true z))]
      by_cases h_sink : w = "sink"
      · rw [if_pos (decide_eq_true h_sink)]
        refine ⟨dx, _, eb, rfl, b, S, P, ow, gs, past, p, x, y, rfl, hb, fun e he H' s => hE e H' ((deedE_sink h_sink).trans he) (liftE_is he) s, fun g hg hno H' S' ow' D kp hb' ho eD => ⟨by decide, fun D2 H2 n2 s2 e2 => ?_⟩⟩
        have nb : w ≠ "back" := by rw [h_sink]; decide
        refine k ((deedE_sink h_sink).trans hno) D2 H2 S' P ow' _ (kp.free hb'.live.1 hb'.live.2 n2) (kp.trans (Kp.of s2)) ?_ ho (hb'.live.2.imp fun _ z => s2.get z) (hb'.off n2) e2 (fun z => absurd z nb) fun _ => ⟨D, rfl, ?_⟩
        · rw [deedG_on nb (by rw [h_sink]; decide), deedP_on nb, would_sink h_sink hg]
          exact hb'.same s2
        · rw [would_sink h_sink hg]
          exact s2.get (eD)
      rw [if_neg (fun z => h_sink (of_decide_eq_true z))]
      have hw := wd.last h_put h_take h_lift h_sink
      have back : ∀ n, n = p → sp_Beach_back T [V.ref b, V.int n] H (fun v H1 => 2 ≤ sizeLine ∧ ∀ (D : Addr) (H' : Hp), H1 D = none → Same H1 H' → H' D = some (HO.lst [V.bl true, v]) → Q (V.ref D) H') (fun cls _ H' => N cls [some (V.ref b), some (V.ref q), some (V.str w), some (V.int p), some (V.int x), some (V.int y), some (V.str (Str.ofString ""))] H') := fun n hn => by
        subst hn
        refine ⟨b, S, P, ow, gs, past, n, rfl, hb, fun e he => hE e H ((deedE_back hw).trans he) (backE_is he) (Same.refl _), fun hno H' S' P' ow' kp hb' ho => ⟨by decide, fun D2 H2 n2 s2 e2 => ?_⟩⟩
        have kp' : Kp b P H H' := fun a u h1 _ e => kp a u h1 h1 e
        obtain ⟨ps, eP, _⟩ := hb.pa
        have neP : P ≠ b := hb.neb eP fun _ _ _ z => by cases z
        have lP : ∃ u, H' P = some u := ⟨_, kp P _ neP neP eP⟩
        have eG : deedG w gs past n x y = past.getD (past.length - n.toNat) [] := if_pos hw
        have eP' : deedP w gs past n = past.take (past.length - n.toNat) := if_pos hw
        refine k ((deedE_back hw).trans hno) D2 H2 S' P' ow' _ (kp'.free hb'.live.1 lP n2) (kp'.trans (Kp.of s2)) ?_ ho (lP.imp fun _ z => s2.get z) (hb'.off n2) e2 (fun _ => by rw [eP']) fun z => absurd hw z
        rw [eG, eP']
        exact hb'.same s2
      by_cases h5 : p = 1
      · rw [if_pos (decide_eq_true h5)]
        by_cases h6 : x = 1
        · rw [if_pos (decide_eq_true h6)]
          exact ⟨dx, _, eb, rfl, back 1 h5.symm⟩
        · rw [if_neg (fun z => h6 (of_decide_eq_true z))]
          exact ⟨dx, _, eb, rfl, back p rfl⟩
      · rw [if_neg (fun z => h5 (of_decide_eq_true z))]
        exact ⟨dx, _, eb, rfl, back p rfl⟩
    · rintro σ' H' ⟨e, he, s, rfl⟩
      walk_at "RD"
      exact ⟨by decide, fun D H2 n2 s2 e2 => kE e he D H2 (s.free n2) (s.trans s2) e2⟩
theorem sc_w_kept : FnScope ["_law_stands", "_law_past", "_law_deed_here", "_law_word", "_law_place", "_law_one", "_law_two", "_law_kept_here", "_law_count", "_law_gate"] ["_law_stands", "_law_past", "_law_deed_here"] (defScope s_w_kept) := by walk_at "SC"
def sp_w_kept {K : PySem.W.Frag} {mg : Str → Option Value} (T : Tx K mg) : Sp := fun vs H Q _ => ∃ (b S P : Addr) (ow : List Addr) (gs' gs : List G) (past' past : List (List G)) (D L q : Addr) (w : Str) (p x y : Int), vs = [.ref D, .ref L, .ref q] ∧ SqT K H q [.str w, .int p, .int x, .int y] ∧ Bch T.C_Beach H b S P ow (deedG w gs past p x y) (deedP w gs past p) ∧ Std gs ∧ past.length ≤ 300 ∧ DkAt H D gs ∧ (∃ ds : List Addr, H L = some (.lst (ds.map V.ref)) ∧ Paired (DkAt H) ds past ∧ D ∉ ds) ∧ L ∉ ow ∧ Wrd w ∧ deedE w gs past p x y = none ∧ ∀ H', Wd T.C_Beach H' b S P ow (deedG w gs past p x y) (deedP w gs past p) D L → Kept (L :: ow) H H' (L :: ow) → Q .non H'
theorem ok_w_kept (T : Tx K mg) : FnOk P w K mg base CX0 2 T.f_w_kept T.fd_w_kept ["_law_stands", "_law_past", "_law_deed_here"] (sp_w_kept T) := by
  refine T.d_w_kept.F.ok sc_w_kept (fun vs H Q E h => ?_) (fun cdv A outer s H vs Q E hr h => ?_)
  · obtain ⟨b, S, P, ow, gs', gs, past', past, D, L, q, w, p, x, y, rfl, hq, hb, sd, l3, hd, ⟨ds, eL, pr, hds⟩, hL, wd, hno, k⟩ := h
    rfl
  · obtain ⟨b, S, P, ow, gs', gs, past', past, D, L, q, w, p, x, y, rfl, hq, hb, sd, l3, hd, ⟨ds, eL, pr, hds⟩, hL, wd, hno, k⟩ := h
    have hu := hu_of hr
    refine ⟨_, (pss_cons (ps_asg (pv 2) (pg_tup (n := 4) rfl (pgs_cons (pg_name (i := 3) sc_w_kept.nd rfl (by walk_at "O")) (pgs_cons (pg_name (i := 4) sc_w_kept.nd rfl (by walk_at "O")) (pgs_cons (pg_name (i := 5) sc_w_kept.nd rfl (by walk_at "O")) (pgs_cons (pg_name (i := 6) sc_w_kept.nd rfl (by walk_at "O")) pgs_nil))))))
      (pss_cons (ps_if (pt_cmpR op_eq (pv 3) pe_str (nomark _)) (pss_cons (ps_set (i := 7) sc_w_kept.nd rfl (by walk_at "O") (pe_ix ix_list (pv 1) (pe_op op_sub (pe_callB call_len_seq (by rfl) T.z_len bo_len (pa_cons (pv 1) pa_nil)) (pv 4)) (fun _ _ => rfl)))
          (pss_cons (ps_expr (pe_bm0 PySem.F.plainAttrs_dict PySem.F.slot_dict_clear PySem.F.type_dict_clear mt_dclear (pv 0)))
          (pss_cons (ps_expr (pe_bm PySem.F.plainAttrs_dict PySem.F.slot_dict_update PySem.F.type_dict_update mt_dupd (pv 0) (pa_cons (pv 7) pa_nil)))
          (pss_cons (ps_for PassesOwn.never rfl (pi_range1 (by rfl) T.z_range (pa_cons (pv 4) pa_nil)) (pg_name (i := 8) sc_w_kept.nd rfl (by walk_at "O"))
            (pss_one (ps_expr (pe_bm0 PySem.F.plainAttrs_list PySem.F.slot_list_pop PySem.F.type_list_pop mt_pop (pv 1)))))
          (pss_one ps_retN)))))
        pss_nil)
      (pss_cons (ps_set (i := 9) sc_w_kept.nd rfl (by walk_at "O") (pe_call (ok_w_would T) (hr.mono (by decide)) (by rfl) T.d_w_would.m T.d_w_would.F.kp T.d_w_would.b .nil pass0 (pa_cons (pv 0) (pa_cons (pv 2) pa_nil))))
      (pss_cons (ps_expr (pe_append (pv 1) (pe_callTy call_dictD (by rfl) T.z_dict bo_dict (pa_cons (pv 0) pa_nil))))
      (pss_one (ps_if (pt_cmpR op_eq (pv 3) pe_str (nomark _)) (pss_one (ps_expr (pe_dpop1 (pv 0) (pv 4) ⟨rfl, rfl, rfl, rfl⟩)))
        (pss_one (ps_dput hu (pv 0) (pv 4) (pe_tupS (pa_cons (pe_ix ix_tup (pv 9) pe_int (fun _ _ => rfl)) (pa_cons (pe_ix ix_tup (pv 9) pe_int (fun _ _ => rfl)) pa_nil))) rfl)))))))), ?_⟩
    obtain ⟨kvs, ks, eD, hd2⟩ := hd.at_
    have lds := Paired.length pr
    refine ⟨_, rfl, q, _, rfl, hq, rfl, _, _, rfl, _, _, rfl, _, _, rfl, _, _, rfl, rfl, ?_⟩
    dsimp only
    walk_at "Q"
    walk_at "RD"
    by_cases hw : w = "back"
    · rw [if_pos (decide_eq_true hw)]
      rw [deedE_back hw] at hno
      unfold backE at hno
      have h1 : 1 ≤ p := by
        by_cases z : p < 1
        · rw [if_pos z] at hno; cases hno
        · omega
      have h2 : p ≤ past.length := by
        by_cases z : (past.length : Int) < p
        · rw [if_neg (by omega), if_pos z] at hno; cases hno
        · omega
      have hj : past.length - p.toNat < past.length := by omega
      have ej : (((ds.map V.ref).length : Nat) : Int) - p = ((past.length - p.toNat : Nat) : Int) := by rw [List.length_map]; omega
      have eG : deedG w gs past p x y = past[past.length - p.toNat] := by
        unfold deedG
        rw [if_pos hw, List.getD_eq_getElem?_getD, List.getElem?_eq_getElem hj]
        rfl
      have eP : deedP w gs past p = past.take (past.length - p.toNat) := if_pos hw
      obtain ⟨dj, hdj, kj⟩ := Paired.get pr (List.getElem?_eq_getElem hj)
      have hdD : D ≠ dj := fun z => hds (by rw [z]; exact List.mem_of_getElem? hdj)
      obtain ⟨kvj, _, eJ, _⟩ := kj.at_
      refine ⟨_, .inl (SqL.of eL), _, SqL.of eL, V.ref dj, ?_, ?_⟩
      · rw [ej]
        exact atI_refs hdj
      delta tBM0 tBM rDClear rDUpd
      have DnL : D ≠ L := ne_of eD eL fun z => by cases z
      refine ⟨tyV_d eD, ⟨_, eD⟩, tyV_d upd_same, hdD, upd_same, kvj, (upd_ne hdD.symm).trans eJ, ?_⟩
      have k2 : DL D L H (upd (upd H D (.dK [])) D (.dK kvj)) := DL.updD.trans DL.updD
      have eL2 : upd (upd H D (.dK [])) D (.dK kvj) L = some (.lst (ds.map V.ref)) := (upd_ne DnL.symm).trans ((upd_ne DnL.symm).trans eL)
      have eD2 : upd (upd H D (.dK [])) D (.dK kvj) D = some (.dK kvj) := upd_same
      generalize upd (upd H D (.dK [])) D (.dK kvj) = H2 at *
      refine ⟨_, rfl, _, rfl, by omega, by omega, for_range (fun i σ H' => ∃ o, σ = [some (V.ref D), some (V.ref L), some (V.ref q), some (V.str w), some (V.int p), some (V.int x), some (V.int y), some (V.ref dj), o, none] ∧ DL L L H2 H' ∧ H' L = some (.lst ((ds.take (ds.length - i)).map V.ref))) ⟨_, rfl, DL.of (Same.refl _), by rw [Nat.sub_zero, List.take_length]; exact eL2⟩ ?_ ?_⟩
      · rintro i σ H3 hi ⟨o, rfl, k3, e3⟩
        delta tBM0 rPop
        have hm : (ds.take (ds.length - i)).length = ds.length - i := by rw [List.length_take]; omega
        have hlt : ds.length - i - 1 < ds.length := by omega
        refine ⟨tyV_l e3, _, e3, ⟨V.ref ds[ds.length - i - 1], ?_⟩, ⟨_, rfl⟩, k3.trans DL.updL, ?_⟩
        · rw [List.length_map, hm, List.getElem?_map, List.getElem?_take_of_lt (by omega), List.getElem?_eq_getElem hlt]
          rfl
        · rw [upd_same, List.dropLast_eq_take, List.length_map, hm, ← List.map_take, List.take_take, show min (ds.length - i - 1) (ds.length - i) = ds.length - (i + 1) by omega]
      · rintro σ H3 ⟨o, rfl, k3, e3⟩
        have k13 : DL D L H H3 := fun a u h1 h2 e => k3 a u h2 h2 (k2 a u h1 h2 e)
        have eD3 := k3 D _ DnL DnL eD2
        have lj : ds.length - p.toNat = past.length - p.toNat := by omega
        rw [lj] at e3
        refine k H3 ⟨hb.dl eD eL hL k13, ?_, ⟨ds.take (past.length - p.toNat), e3, ?_, fun z => hds (List.mem_of_mem_take z)⟩, hL⟩ (Kept.dl eD eL k13 ⟨_, eD3⟩ ⟨_, e3⟩)
        · rw [eG]
          exact kj.copy eJ eD3 fun _ _ e => k13.tup eD eL e
        · rw [eP]
          exact Paired.takeP (Paired.dl pr hds eD eL k13) _
    · rw [if_neg (fun z => hw (of_decide_eq_true z))]
      walk_at "NX"
      walk_at "Q"
      walk_at "RD"
      refine ⟨D, q, w, p, x, y, gs, rfl, hq, hd, fun g H1 n1 s1 e1 => ?_⟩
      walk_at "NX"
      walk_at "Q"
      walk_at "RD"
      refine ⟨⟨_, s1.get eL⟩, kvs, s1.get eD, fun c H2 n2 s2 e2 => ⟨_, s2.get (s1.get eL), ?_, ?_⟩⟩
      · rw [List.length_map, PySem.sizeLine_eq]; omega
      walk_at "NX"
      walk_at "RD"
      have eD2 := s2.get (s1.get eD)
      have eL2 := s2.get (s1.get eL)
      have cD : c ≠ D := (ne_of_none (s1.get eD) n2).symm
      have cL : c ≠ L := (ne_of_none (s1.get eL) n2).symm
      have DnL : D ≠ L := ne_of eD eL fun z => by cases z
      have k3 : DL D L H (upd H2 L (.lst (ds.map V.ref ++ [V.ref c]))) := (DL.of (s1.trans s2)).trans DL.updL
      have eD3 : upd H2 L (.lst (ds.map V.ref ++ [V.ref c])) D = some (.dK kvs) := (upd_ne DnL).trans eD2
      have d3 : DkAt (upd H2 L (.lst (ds.map V.ref ++ [V.ref c]))) D gs := hd.copy eD eD3 fun _ _ e => k3.tup eD eL e
      have fin : ∀ H5, DL D L (upd H2 L (.lst (ds.map V.ref ++ [V.ref c]))) H5 → H5 L = some (.lst (ds.map V.ref ++ [V.ref c])) → DkAt H5 D (deedG w gs past p x y) → Q V.non H5 := fun H5 k5 e5 d5 => by
        have k15 := k3.trans k5
        obtain ⟨kv5, _, eD5, _⟩ := d5.at_
        refine k H5 ⟨hb.dl eD eL hL k15, d5, ⟨ds ++ [c], by rw [List.map_append]; exact e5, ?_, fun z => ?_⟩, hL⟩ (Kept.dl eD eL k15 ⟨_, eD5⟩ ⟨_, e5⟩)
        · rw [deedP_on hw]
          exact Paired.snoc (Paired.dl pr hds eD eL k15) (hd.copy eD (k5 c _ cD cL ((upd_ne cL).trans e2)) fun _ _ e => k15.tup eD eL e)
        · rcases List.mem_append.mp z with z | z
          · exact hds z
          · exact cD (List.mem_singleton.mp z).symm
      by_cases h2 : w = "take"
      · rw [if_pos (decide_eq_true h2)]
        rw [deedE_take h2] at hno
        unfold takeE at hno
        have hp : p ∈ places gs := by
          by_cases z : p ∈ places gs
          · exact z
          · rw [if_neg z] at hno; cases hno
        obtain ⟨gg, hgg, hgp⟩ := List.mem_map.mp hp
        subst hgp
        obtain ⟨kv, a, z1, z2, z3⟩ := d3.pop hgg
        refine ⟨d3.isD, kv, z1, .inl gg.p, rfl, ⟨_, z2⟩, fin _ DL.updD ((upd_ne DnL.symm).trans upd_same) ?_⟩
        rw [deedG_take h2]
        exact z3
      · rw [if_neg (fun z => h2 (of_decide_eq_true z))]
        have e13 := k3.trans (DL.of (Same.refl _))
        have eg : upd H2 L (.lst (ds.map V.ref ++ [V.ref c])) g = some (.tup [.int p, .int (would w gs p x y).1, .int (would w gs p x y).2]) := (upd_ne (ne_of (s2.get e1) eL2 fun z => by cases z)).trans (s2.get e1)
        refine ⟨_, SqT.of eg, _, rfl, _, SqT.of eg, _, rfl, by decide, fun t H4 n4 s4 e4 => ?_⟩
        obtain ⟨kv, kv', z1, z2, z3⟩ := (d3.same s4).dput (x := p) sd e4
        refine ⟨_, z2, fin _ ((DL.of s4).trans DL.updD) ((upd_ne DnL.symm).trans (s4.get upd_same)) ?_⟩
        rw [deedG_on hw h2]
        exact z3
theorem sc_w_step : FnScope ["_law_beach", "_law_stands", "_law_past", "_law_deed_here", "_law_due", "_law_gate", "_law_good", "_law_told"] ["_law_beach", "_law_stands", "_law_past", "_law_deed_here"] (defScope s_w_step) := by walk_at "SC"
def sp_w_step {K : PySem.W.Frag} {mg : Str → Option Value} (T : Tx K mg) : Sp := fun vs H Q _ => ∃ (b S P : Addr) (ow : List Addr) (gs : List G) (past : List (List G)) (D L q : Addr) (w : Str) (p x y : Int), vs = [.ref b, .ref D, .ref L, .ref q] ∧ SqT K H q [.str w, .int p, .int x, .int y] ∧ Wd T.C_Beach H b S P ow gs past D L ∧ Wrd w ∧ ∀ H' S' P' ow', Wd T.C_Beach H' b S' P' ow' (aft w gs past p x y).1 (aft w gs past p x y).2 D L → Kept (L :: ow) H H' (L :: ow') → Q (.bl true) H'
theorem ok_w_step (T : Tx K mg) : FnOk P w K mg base CX0 5 T.f_w_step T.fd_w_step ["_law_beach", "_law_stands", "_law_past", "_law_deed_here"] (sp_w_step T) := by
  refine T.d_w_step.F.ok sc_w_step (fun vs H Q E h => ?_) (fun cdv A outer s H vs Q E hr h => ?_)
  · obtain ⟨b, S, P, ow, gs, past, D, L, q, w, p, x, y, rfl, hq, hw, wd, k⟩ := h
    rfl
  · obtain ⟨b, S, P, ow, gs, past, D, L, q, w, p, x, y, rfl, hq, hw, wd, k⟩ := h
    have hu := hu_of hr
    refine ⟨_, (pss_cons (ps_set (i := 4) sc_w_step.nd rfl (by walk_at "O") (pe_call (ok_w_refusal T) (hr.mono (by decide)) (by rfl) T.d_w_refusal.m T.d_w_refusal.F.kp T.d_w_refusal.b .nil pass0 (pa_cons (pv 1) (pa_cons (pv 2) (pa_cons (pv 3) pa_nil)))))
      (pss_cons (ps_set (i := 5) sc_w_step.nd rfl (by walk_at "O") (pe_call (ok_w_would T) (hr.mono (by decide)) (by rfl) T.d_w_would.m T.d_w_would.F.kp T.d_w_would.b .nil pass0 (pa_cons (pv 1) (pa_cons (pv 3) pa_nil))))
      (pss_cons (ps_asg (pe_call (ok_w_done T) (hr.mono (by decide)) (by rfl) T.d_w_done.m T.d_w_done.F.kp T.d_w_done.b .nil pass0 (pa_cons (pv 0) (pa_cons (pv 3) pa_nil))) (pg_lst (n := 2) rfl (pgs_cons (pg_name (i := 6) sc_w_step.nd rfl (by walk_at "O")) (pgs_cons (pg_name (i := 7) sc_w_step.nd rfl (by walk_at "O")) pgs_nil))))
      (pss_cons (ps_if (pt_cmpR op_ne (pv 6) (pe_cmpR op_eq (pv 4) pe_str (nomark _)) (nomark _)) (pss_one (ps_ret pe_bl))
        pss_nil)
      (pss_cons (ps_if (pt_cmpR op_ne (pv 4) pe_str (nomark _)) (pss_one (ps_ret (pe_cmpR op_eq (pv 7) (pv 4) (nomark _))))
        pss_nil)
      (pss_cons (ps_expr (pe_call (ok_w_kept T) (hr.mono (by decide)) (by rfl) T.d_w_kept.m T.d_w_kept.F.kp T.d_w_kept.b .nil pass0 (pa_cons (pv 1) (pa_cons (pv 2) (pa_cons (pv 3) pa_nil)))))
      (pss_cons (ps_if (pt_cmpR op_eq (pe_ix ix_tup (pv 3) pe_int (fun _ _ => rfl)) pe_str (nomark _)) (pss_one (ps_ret (pe_and (pe_call (ok_w_whole T) (hr.mono (by decide)) (by rfl) T.d_w_whole.m T.d_w_whole.F.kp T.d_w_whole.b .nil pass0 (pa_cons (pv 7) pa_nil)) (pe_one (pe_cmpR op_eq (pv 7) (pe_callB call_len_seq (by rfl) T.z_len bo_len (pa_cons (pv 2) pa_nil)) (nomark _))))))
        pss_nil)
      (pss_one (ps_ret (pe_call (ok_w_numbers T) (hr.mono (by decide)) (by rfl) T.d_w_numbers.m T.d_w_numbers.F.kp T.d_w_numbers.b .nil pass0 (pa_cons (pv 7) (pa_cons (pv 5) pa_nil)))))))))))), ?_⟩
    walk_at "RD"
    refine ⟨b, S, P, ow, gs, past, D, L, q, w, p, x, y, rfl, hq, hw, wd, fun H1 s1 => ?_⟩
    refine ⟨D, q, w, p, x, y, gs, rfl, s1.tup hq, hw.dk.same s1, fun g H2 n2 s2 e2 => ?_⟩
    have s12 := s1.trans s2
    have hw2 := hw.same s12
    refine ⟨b, S, P, ow, gs, past, q, w, p, x, y, rfl, s12.tup hq, hw2.bch, wd, fun e he Dn H3 n3 s3 e3 => ?_, fun hno Dn H3 S' P' ow' v n3 kp hb' ho lv nf e3 hv1 hv2 => ?_⟩
    · rw [he]
      walk_at "RD"
      have h0 : decide (errS (some e) = Str.ofString "") = false := decide_eq_false errT_ne
      refine ⟨_, SqL.of e3, rfl, _, _, rfl, _, _, rfl, rfl, rfl, ?_⟩
      rw [h0, if_neg (by simp), if_pos (show (!false) = true from rfl)]
      refine ⟨rfl, ?_⟩
      rw [decide_eq_true (show V.str (errT e) = V.str (errS (some e)) from rfl)]
      have s13 := s12.trans s3
      exact k H3 S P ow (by rw [aft_err he]; exact hw.same s13) (Kept.of s13)
    · rw [hno]
      walk_at "RD"
      have h0 : decide (errS none = Str.ofString "") = true := decide_eq_true rfl
      refine ⟨_, SqL.of e3, rfl, _, _, rfl, _, _, rfl, rfl, rfl, ?_⟩
      rw [h0, if_neg (by simp), if_neg (by simp)]
      obtain ⟨dD, lD, hLo⟩ := hw2.deed kp hb' ho
      have q3 := hw2.bch.sqt kp (s12.tup hq)
      refine ⟨b, S', P', ow', gs, gs, past, past, D, L, q, w, p, x, y, rfl, q3, hb', hw.bch.std, hw.bch.len, dD, lD, hLo, wd, hno, fun H4 wd4 kt4 => ?_⟩
      have kt : Kept (L :: ow) H H4 (L :: ow') := (Kept.of s12).trans ((Kept.kp hw2.bch kp hb' ho lv).cons.trans kt4)
      have fin : Q (.bl true) H4 := k H4 S' P' ow' (by rw [aft_ok hno]; exact wd4) kt
      refine ⟨_, kt4.sqt q3, _, rfl, rfl, ?_⟩
      by_cases hback : w = "back"
      · rw [if_pos (decide_eq_true (by rw [hback])), hv1 hback]
        obtain ⟨xs, eL4, lL4⟩ := wd4.plen
        delta sp_w_whole
        refine ⟨⟨_, rfl⟩, _, .inl (SqL.of eL4), ?_⟩
        rw [lL4, decide_eq_true rfl]
        exact fin
      · rw [if_neg (fun z => hback (V.str.inj (of_decide_eq_true z)))]
        obtain ⟨t, rfl, et⟩ := hv2 hback
        exact ⟨t, g, [p, (would w gs p x y).1, (would w gs p x y).2], rfl, kt4.tup _ _ et, SqT.of (kt4.tup _ _ (hw2.bch.tup kp e2)), by simp only [List.length_cons, List.length_nil]; omega, fin⟩
theorem sc_w_how : FnScope ["_law_script", "_law_cell"] ["_law_script"] (defScope s_w_how) := by walk_at "SC"
def sp_w_how (K : PySem.W.Frag) : Sp := fun vs H Q _ => ∃ (a : Addr) (ns : List Int), vs = [.ref a] ∧ SqL K H a (ns.map V.int) ∧ ∀ H' v, Same H H' → Q (.int v) H'
theorem ok_w_how (T : Tx K mg) : FnOk P w K mg base CX0 2 T.f_w_how T.fd_w_how ["_law_script"] (sp_w_how K) := by
  refine T.d_w_how.F.ok sc_w_how (fun vs H Q E h => ?_) (fun cdv A outer s H vs Q E hr h => ?_)
  · obtain ⟨a, ns, rfl, hS, k⟩ := h
    rfl
  · obtain ⟨a, ns, rfl, hS, k⟩ := h
    have hu := hu_of hr
    refine ⟨_, (pss_cons (ps_set (i := 1) sc_w_how.nd rfl (by walk_at "O") (pe_call (ok_w_at T) (hr.mono (by decide)) (by rfl) T.d_w_at.m T.d_w_at.F.kp T.d_w_at.b .nil pass0 (pa_cons (pv 0) (pa_cons pe_int pa_nil))))
      (pss_one (ps_ret (pe_ix ix_list (pe_call (ok_w_spread T) (hr.mono (by decide)) (by rfl) T.d_w_spread.m T.d_w_spread.F.kp T.d_w_spread.b .nil pass0 (pa_cons (pv 1) (pa_cons pe_int (pa_cons (pe_cmpR op_eq (pe_op op_mod (pv 1) pe_int) pe_int (nomark _)) pa_nil)))) pe_int (fun _ _ => rfl))))), ?_⟩
    delta sp_w_at sp_w_spread
    refine ⟨ns, hS, ⟨_, rfl⟩, ⟨_, rfl⟩, fun D H1 xs n1 s1 e1 l1 => ?_⟩
    exact ⟨_, SqL.of e1, _, atI_ints (by omega) (by omega), k _ _ s1⟩
theorem sc_w_laid : FnScope ["_law_beach", "_law_stands", "_law_past", "_law_script", "_law_most", "_law_how_here", "_law_many", "_law_place", "_law_foot", "_law_head", "_law_count"] ["_law_beach", "_law_stands", "_law_past", "_law_script", "_law_most"] (defScope s_w_laid) := by walk_at "SC"
def sp_w_laid {K : PySem.W.Frag} {mg : Str → Option Value} (T : Tx K mg) : Sp := fun vs H Q _ => ∃ (b S0 P0 D L a : Addr) (ns : List Int) (most : Int), vs = [.ref b, .ref D, .ref L, .ref a, .int most] ∧ Scr K [L, S0, P0] H a (ns.map V.int) ∧ Wd T.C_Beach H b S0 P0 [S0, P0] [] [] D L ∧ 0 ≤ most ∧ most ≤ 40 ∧ ∀ (H' : Hp) (S P : Addr) (ow : List Addr) (gs : List G) (past : List (List G)), Kept [L, S0, P0] H H' (L :: ow) → Wd T.C_Beach H' b S P ow gs past D L → Q (.bl true) H'
theorem ok_w_laid (T : Tx K mg) : FnOk P w K mg base CX0 6 T.f_w_laid T.fd_w_laid ["_law_beach", "_law_stands", "_law_past", "_law_script", "_law_most"] (sp_w_laid T) := by
  refine T.d_w_laid.F.ok sc_w_laid (fun vs H Q E h => ?_) (fun cdv A outer s H vs Q E hr h => ?_)
  · obtain ⟨b, S0, P0, D, L, a, ns, most, rfl, sc, hw, m0, m1, k⟩ := h
    rfl
  · obtain ⟨b, S0, P0, D, L, a, ns, most, rfl, sc, hw, m0, m1, k⟩ := h
    have hu := hu_of hr
    refine ⟨_, (pss_cons (ps_set (i := 5) sc_w_laid.nd rfl (by walk_at "O") (pe_op op_fdiv (pe_call (ok_w_how T) (hr.mono (by decide)) (by rfl) T.d_w_how.m T.d_w_how.F.kp T.d_w_how.b .nil pass0 (pa_cons (pv 3) pa_nil)) pe_int))
      (pss_cons (ps_set (i := 6) sc_w_laid.nd rfl (by walk_at "O") (pe_ix ix_list (pe_lstS (pa_cons (pe_op op_mod (pe_op op_fdiv (pv 5) pe_int) (pe_op op_add (pv 4) pe_int)) (pa_cons pe_int (pa_cons (pe_op op_mod (pe_op op_fdiv (pv 5) pe_int) pe_int) (pa_cons (pv 4) pa_nil))))) (pe_op op_mod (pv 5) pe_int) (fun _ _ => rfl)))
      (pss_cons (ps_for PassesOwn.never rfl (pi_list (pe_call (ok_w_gates T) (hr.mono (by decide)) (by rfl) T.d_w_gates.m T.d_w_gates.F.kp T.d_w_gates.b .nil pass0 (pa_cons (pv 3) (pa_cons pe_int (pa_cons (pv 6) pa_nil))))) (pg_tup (n := 3) rfl (pgs_cons (pg_name (i := 7) sc_w_laid.nd rfl (by walk_at "O")) (pgs_cons (pg_name (i := 8) sc_w_laid.nd rfl (by walk_at "O")) (pgs_cons (pg_name (i := 9) sc_w_laid.nd rfl (by walk_at "O")) pgs_nil))))
        (pss_one (ps_if (pt_not (pt_val (pe_call (ok_w_step T) (hr.mono (by decide)) (by rfl) T.d_w_step.m T.d_w_step.F.kp T.d_w_step.b .nil pass0 (pa_cons (pv 0) (pa_cons (pv 1) (pa_cons (pv 2) (pa_cons (pe_tupS (pa_cons pe_str (pa_cons (pv 7) (pa_cons (pv 8) (pa_cons (pv 9) pa_nil))))) pa_nil))))))) (pss_one (ps_ret pe_bl))
            pss_nil)))
      (pss_cut (ps_if (pw_and (pt_cmpR op_eq (pe_op op_mod (pe_op op_fdiv (pv 5) pe_int) pe_int) pe_int (nomark _)) (pw_and1 (pt_cmpR op_gt (pv 6) pe_int (nomark _)))).pt (pss_one (ps_for PassesOwn.never rfl (pi_range1 (by rfl) T.z_range (pa_cons (pe_op op_sub (pe_op op_add pe_int (pe_op op_mod (pe_op op_fdiv (pv 5) pe_int) pe_int)) (pv 6)) pa_nil)) (pg_name (i := 10) sc_w_laid.nd rfl (by walk_at "O"))
            (pss_one (ps_if (pt_not (pt_val (pe_call (ok_w_step T) (hr.mono (by decide)) (by rfl) T.d_w_step.m T.d_w_step.F.kp T.d_w_step.b .nil pass0 (pa_cons (pv 0) (pa_cons (pv 1) (pa_cons (pv 2) (pa_cons (pe_tupS (pa_cons pe_str (pa_cons (pe_ix ix_list (pe_callB (call_sortedD (by rfl)) (by rfl) T.z_sorted bo_sorted (pa_cons (pv 1) pa_nil)) pe_int (fun _ _ => rfl)) (pa_cons pe_int (pa_cons pe_int pa_nil))))) pa_nil))))))) (pss_one (ps_ret pe_bl))
                pss_nil))))
        pss_nil)
      (pss_one (ps_ret pe_bl)))))), ?_⟩
    walk_at "Q"
    delta sp_w_how
    refine ⟨⟨_, sc.sq⟩, fun H1 v s1 => ?_⟩
    walk_at "NX"
    walk_at "Q"
    walk_at "RD"
    refine ⟨by omega, by decide, fun z H2 n2 s2 e2 => ?_⟩
    obtain ⟨m, hm, hm0, hm1⟩ : ∃ m : Int, atI [V.int (v / 40 / 4 % (most + 1)), V.int 0, V.int (v / 40 / 4 % 8), V.int most] (v / 40 % 4) = some (V.int m) ∧ 0 ≤ m ∧ m ≤ 40 := by
      obtain ⟨m, hm, h⟩ := atL4 (x := v / 40 / 4 % (most + 1)) (y := 0) (z := v / 40 / 4 % 8) (t := most) (e := v / 40 % 4) (by omega) (by omega)
      have q1 := Int.emod_nonneg (v / 40 / 4) (show most + 1 ≠ 0 by omega)
      have q2 := Int.emod_lt_of_pos (v / 40 / 4) (show 0 < most + 1 by omega)
      exact ⟨m, hm, by omega, by omega⟩
    have s12 := s1.trans s2
    have hw2 := hw.same s12
    have lv2 : ∀ c ∈ [L, S0, P0], ∃ u, H2 c = some u := fun c hc => by
      simp at hc
      rcases hc with rfl | rfl | rfl
      · obtain ⟨xs, e, _⟩ := hw2.plen
        exact ⟨_, e⟩
      · exact (let ⟨_, z⟩ := hw2.bch.lv c (by simp); ⟨_, z⟩)
      · exact (let ⟨_, z⟩ := hw2.bch.lv c (by simp); ⟨_, z⟩)
    refine ⟨_, SqL.of e2, _, hm, ?_⟩
    walk_at "NX"
    refine ⟨_, rfl, _, rfl, a, 1, m, ns, rfl, s12.seq sc.sq, by decide, by decide, hm0, by omega, fun GL H3 as gs nG s3 eG ga lg ok nd => ⟨GL, rfl, ⟨_, SqL.of eG⟩, ?_⟩⟩
    have oG : GL ∉ [L, S0, P0] := fun z => by
      obtain ⟨u, hu⟩ := lv2 GL z
      rw [nG] at hu; cases hu
    have s13 := s12.trans s3
    have k03 : Kept [L, S0, P0] H H3 [L, S0, P0] := Kept.of s13
    have las := ga.len
    refine for_list (xs := as.map V.ref) (fun i σ H' => ∃ (o7 o8 o9 : Option V) (S P : Addr) (ow : List Addr) (G0 : List G) (past : List (List G)), σ = [some (.ref b), some (.ref D), some (.ref L), some (.ref a), some (.int most), some (.int (v / 40)), some (.int m), o7, o8, o9, none] ∧ Kept [L, S0, P0] H3 H' (L :: ow) ∧ Wd T.C_Beach H' b S P ow G0 past D L ∧ G0.Perm (gs.take i) ∧ past.length = i) ⟨none, none, none, S0, P0, _, [], [], rfl, Kept.refl, hw.same s13, List.Perm.refl _, rfl⟩ (fun _ _ _ _ ⟨_, _, _, _, _, _, _, _, _, kt, _⟩ => SqL.of (kt.lst _ _ oG eG)) ?_ ?_
    · rintro i v' σ H4 hx ⟨o7, o8, o9, S, P, ow, G0, past, rfl, kt, hw4, pm, hpl⟩
      have hi : i < gs.length := by
        have := (List.getElem?_eq_some_iff.mp hx).1
        rw [List.length_map] at this
        omega
      obtain ⟨ai, hai, ti'⟩ := ga.get (List.getElem?_eq_getElem hi)
      have ex : v' = V.ref ai := by
        rw [List.getElem?_map, hai] at hx
        exact (Option.some.inj hx).symm
      subst ex
      have ti := kt.tup _ _ ti'
      obtain ⟨fp1, fp2⟩ := fits_put pm hi nd (by omega) ok (past := past) (by omega)
      generalize gs[i] = g at *
      delta gTup gCons gNil
      refine ⟨_, SqT.of ti, rfl, _, _, rfl, _, _, rfl, _, _, rfl, rfl, by decide, fun q H5 n5 s5 e5 => ?_⟩
      have fp1' := (deedE_put (w := "put") rfl).trans fp1
      refine ⟨b, S, P, ow, G0, past, D, L, q, "put", g.p, g.f, g.h, rfl, SqT.of e5, hw4.same s5, .put rfl, fun H6 S' P' ow' hw6 kt6 => ⟨true, rfl, ?_⟩⟩
      rw [aft_ok fp1', deedG_on (by decide) (by decide), deedP_on (by decide), would_put rfl] at hw6
      rw [if_neg (by simp)]
      exact ⟨⟨_, rfl⟩, ⟨_, rfl⟩, ⟨_, rfl⟩, S', P', ow', (kt.same s5).trans kt6, _, _, hw6, fp2, by rw [List.length_append, hpl]; rfl⟩
    rintro σ H4 ⟨o7, o8, o9, S, P, ow, G0, past, rfl, kt, hw4, pm, hpl⟩
    rw [List.length_map, las, List.take_length] at pm
    refine ⟨fun σ' H' => ∃ (o10 : Option V) (S P : Addr) (ow : List Addr) (G0 : List G) (past : List (List G)), σ' = [some (.ref b), some (.ref D), some (.ref L), some (.ref a), some (.int most), some (.int (v / 40)), some (.int m), o7, o8, o9, o10] ∧ Kept [L, S0, P0] H3 H' (L :: ow) ∧ Wd T.C_Beach H' b S P ow G0 past D L, ?_, ?_⟩
    · walk_at "RD"
      by_cases hc : v / 40 / 4 % 9 = 1
      · rw [if_pos (decide_eq_true hc)]
        by_cases hc2 : 0 < m
        · rw [if_pos (decide_eq_true hc2)]
          have hne : G0 ≠ [] := fun z => by
            rw [z] at pm
            have := pm.length_eq
            simp at this
            omega
          refine ⟨_, rfl, _, _, rfl, rfl, (show (0 : Int) < 36 ∧ (36 : Int) < 1073741824 by decide), _, _, rfl, rfl, (show (0 : Int) < 11 by decide), _, _, rfl, rfl, _, rfl, _, _, rfl, rfl, _, rfl, by omega, by omega, for_range (fun i σ H' => ∃ (o10 : Option V) (S P : Addr) (ow : List Addr) (G0 : List G) (past : List (List G)), σ = [some (.ref b), some (.ref D), some (.ref L), some (.ref a), some (.int most), some (.int (v / 40)), some (.int m), o7, o8, o9, o10] ∧ Kept [L, S0, P0] H3 H' (L :: ow) ∧ Wd T.C_Beach H' b S P ow G0 past D L ∧ G0 ≠ []) ⟨none, S, P, ow, G0, past, rfl, kt, hw4, hne⟩ ?_ ?_⟩
          · rintro i σ H5 hi ⟨o10, S, P, ow, G0, past, rfl, kt, hw5, hne⟩
            obtain ⟨kvs, ks, eD, e2, lk, lkv, l64⟩ := sortD0 (K := K) hw5.dk hw5.bch.std.len
            have hpos : 0 < G0.length := List.length_pos_iff.mpr hne
            delta rSortD
            refine ⟨kvs, eD, ks, e2, l64, fun Ds Hs ks' ns' ss es pm' so => ?_⟩
            have lks := pm'.length_eq
            refine ⟨_, SqL.of es, _, atI_ints (by omega) (by omega), by decide, fun q H6 n6 s6 e6 => ?_⟩
            refine ⟨b, S, P, ow, G0, past, D, L, q, "lift", _, 0, 0, rfl, SqT.of e6, hw5.same (ss.trans s6), .lift rfl, fun H7 S' P' ow' hw7 kt7 => ⟨true, rfl, ?_⟩⟩
            rw [if_neg (by simp)]
            exact ⟨⟨_, rfl⟩, S', P', ow', ((kt.same ss).same s6).trans kt7, _, ⟨_, hw7⟩, aft_lift hne⟩
          · rintro σ H5 ⟨o10, S, P, ow, G0, past, rfl, kt, hw5, hne⟩
            exact ⟨⟨_, rfl⟩, S, P, ow, kt, _, _, hw5⟩
        · rw [if_neg (fun z => hc2 (of_decide_eq_true z))]
          exact ⟨⟨_, rfl⟩, S, P, ow, kt, _, _, hw4⟩
      · rw [if_neg (fun z => hc (of_decide_eq_true z))]
        exact ⟨⟨_, rfl⟩, S, P, ow, kt, _, _, hw4⟩
    rintro σ' H5 ⟨o10, S, P, ow, G0, past, rfl, kt, hw5⟩
    walk_at "RD"
    exact k H5 S P ow G0 past (k03.trans kt) hw5
theorem sc_w_menu : FnScope ["_law_draw"] ["_law_draw"] (defScope s_w_menu) := by walk_at "SC"
def sp_w_menu (K : PySem.W.Frag) : Sp := fun vs H Q _ => ∃ d : Int, vs = [.int d] ∧ ∀ H' v, Same H H' → Q (.int v) H'
theorem ok_w_menu (T : Tx K mg) : FnOk P w K mg base CX0 1 T.f_w_menu T.fd_w_menu ["_law_draw"] (sp_w_menu K) := by
  refine T.d_w_menu.F.ok sc_w_menu (fun vs H Q E h => ?_) (fun cdv A outer s H vs Q E hr h => ?_)
  · obtain ⟨d, rfl, k⟩ := h
    rfl
  · obtain ⟨d, rfl, k⟩ := h
    have hu := hu_of hr
    refine ⟨_, (pss_one (ps_ret (pe_ix ix_list (pe_lstS (pa_cons (pe_un un_neg pe_int) (pa_cons (pe_un un_neg pe_int) (pa_cons (pe_un un_neg pe_int) (pa_cons pe_int (pa_cons pe_int (pa_cons pe_int (pa_cons pe_int (pa_cons (pe_op op_pow pe_int pe_int) (pa_cons (pe_un un_neg (pe_op op_pow pe_int pe_int)) pa_nil)))))))))) (pe_op op_mod (pv 0) pe_int) (fun _ _ => rfl)))), ?_⟩
    walk_at "RD"
    refine ⟨by decide, fun D H1 n1 s1 e1 => ?_⟩
    exact ⟨_, SqL.of e1, _, atI_ints (xs := [-1001, -1000, -999, 0, 999, 1000, 1001, 1000000000000000000000000000000, -1000000000000000000000000000000]) (by omega) (by simp only [List.length_cons, List.length_nil]; omega), k _ _ s1⟩
theorem sc_w_deed : FnScope ["_law_script", "_law_k", "_law_stands", "_law_past", "_law_how_here", "_law_mixed", "_law_row", "_law_word", "_law_pool", "_law_place", "_law_many", "_law_kind", "_law_one", "_law_two", "_law_line", "_law_any_two", "_law_foot", "_law_head"] ["_law_script", "_law_k", "_law_stands", "_law_past"] (defScope s_w_deed) := by walk_at "SC"
theorem deedW {e : Int} (h1 : 0 ≤ e) (h2 : e < 7) : ∃ w, atI [V.str "put", V.str "put", V.str "put", V.str "lift", V.str "sink", V.str "take", V.str "back"] e = some (V.str w) ∧ Wrd w := by
  rcases (show e = 0 ∨ e = 1 ∨ e = 2 ∨ e = 3 ∨ e = 4 ∨ e = 5 ∨ e = 6 by omega) with rfl | rfl | rfl | rfl | rfl | rfl | rfl
  · exact ⟨_, rfl, .put rfl⟩
  · exact ⟨_, rfl, .put rfl⟩
  · exact ⟨_, rfl, .put rfl⟩
  · exact ⟨_, rfl, .lift rfl⟩
  · exact ⟨_, rfl, .sink rfl⟩
  · exact ⟨_, rfl, .take rfl⟩
  · exact ⟨_, rfl, .back rfl⟩
def sp_w_deed (K : PySem.W.Frag) : Sp := fun vs H Q _ => ∃ (a : Addr) (k : Int) (ns : List Int) (D L : Addr) (gs : List G) (xs : List V), vs = [.ref a, .int k, .ref D, .ref L] ∧ SqL K H a (ns.map V.int) ∧ 0 ≤ k ∧ k < ns.length ∧ ns.length ≤ 63 ∧ DkAt H D gs ∧ gs.length ≤ 40 ∧ H L = some (.lst xs) ∧ ∀ (D : Addr) (H' : Hp) (w : Str) (p x y : Int), H D = none → Same H H' → H' D = some (.tup [.str w, .int p, .int x, .int y]) → Wrd w → Q (.ref D) H'
theorem ok_w_deed (T : Tx K mg) : FnOk P w K mg base CX0 3 T.f_w_deed T.fd_w_deed ["_law_script", "_law_k", "_law_stands", "_law_past"] (sp_w_deed K) := by
  refine T.d_w_deed.F.ok sc_w_deed (fun vs H Q E h => ?_) (fun cdv A outer s H vs Q E hr h => ?_)
  · obtain ⟨a, k0, ns, D, L, gs, xs, rfl, hS, h0, h1, h63, hd, l40, eL, k⟩ := h
    rfl
  · obtain ⟨a, k0, ns, D, L, gs, xs, rfl, hS, h0, h1, h63, hd, l40, eL, k⟩ := h
    have hu := hu_of hr
    refine ⟨_, (pss_cons (ps_set (i := 4) sc_w_deed.nd rfl (by walk_at "O") (pe_call (ok_w_how T) (hr.mono (by decide)) (by rfl) T.d_w_how.m T.d_w_how.F.kp T.d_w_how.b .nil pass0 (pa_cons (pv 0) pa_nil)))
      (pss_cons (ps_set (i := 5) sc_w_deed.nd rfl (by walk_at "O") (pe_cmpR op_eq (pe_op op_mod (pe_ix ix_list (pv 0) pe_int (fun _ _ => rfl)) pe_int) pe_int (nomark _)))
      (pss_cons (ps_set (i := 6) sc_w_deed.nd rfl (by walk_at "O") (pe_call (ok_w_spread T) (hr.mono (by decide)) (by rfl) T.d_w_spread.m T.d_w_spread.F.kp T.d_w_spread.b .nil pass0 (pa_cons (pe_ix ix_list (pe_lstS (pa_cons (pe_ix ix_list (pv 0) (pv 1) (fun _ _ => rfl)) (pa_cons (pe_op op_add (pe_ix ix_list (pv 0) (pv 1) (fun _ _ => rfl)) (pe_op op_mul pe_int (pv 1))) pa_nil))) (pe_callTy call_intB (by rfl) T.z_int bo_int (pa_cons (pv 5) pa_nil)) (fun _ _ => rfl)) (pa_cons pe_int (pa_cons (pv 5) pa_nil)))))
      (pss_cut (ps_set (i := 7) sc_w_deed.nd rfl (by walk_at "O") (pe_ix ix_list (pe_lstS (pa_cons pe_str (pa_cons pe_str (pa_cons pe_str (pa_cons pe_str (pa_cons pe_str (pa_cons pe_str (pa_cons pe_str pa_nil)))))))) (pe_op op_mod (pe_ix ix_list (pv 6) pe_int (fun _ _ => rfl)) pe_int) (fun _ _ => rfl)))
      (pss_cons (ps_set (i := 8) sc_w_deed.nd rfl (by walk_at "O") (pe_ix ix_list (pe_lstS (pa_cons pe_int (pa_cons pe_int (pa_cons pe_int (pa_cons pe_int pa_nil))))) (pe_op op_mod (pe_op op_fdiv (pv 4) pe_int) pe_int) (fun _ _ => rfl)))
      (pss_cons (ps_set (i := 9) sc_w_deed.nd rfl (by walk_at "O") (pe_op op_sub (pe_op op_mod (pe_ix ix_list (pv 6) pe_int (fun _ _ => rfl)) (pv 8)) (pe_op op_fdiv (pv 8) pe_int)))
      (pss_cut (ps_if (pw_and (pt_cmpR op_eq (pe_op op_mod (pe_ix ix_list (pv 6) pe_int (fun _ _ => rfl)) pe_int) pe_int (nomark _)) (pw_and1 (pt_cmpR op_gt (pe_callB call_lenD (by rfl) T.z_len bo_len (pa_cons (pv 2) pa_nil)) pe_int (nomark _)))).pt (pss_one (ps_set (i := 9) sc_w_deed.nd rfl (by walk_at "O") (pe_ix ix_list (pe_callB (call_sortedD (by rfl)) (by rfl) T.z_sorted bo_sorted (pa_cons (pv 2) pa_nil)) (pe_op op_mod (pe_ix ix_list (pv 6) pe_int (fun _ _ => rfl)) (pe_callB call_lenD (by rfl) T.z_len bo_len (pa_cons (pv 2) pa_nil))) (fun _ _ => rfl))))
        pss_nil)
      (pss_cons (ps_if (pt_cmpR op_eq (pv 7) pe_str (nomark _)) (pss_cons (ps_set (i := 10) sc_w_deed.nd rfl (by walk_at "O") (pe_ix ix_list (pe_lstS (pa_cons pe_int (pa_cons pe_int (pa_cons (pe_op op_add pe_int (pe_op op_mod (pe_ix ix_list (pv 6) pe_int (fun _ _ => rfl)) pe_int)) (pa_cons (pe_callB call_len_seq (by rfl) T.z_len bo_len (pa_cons (pv 3) pa_nil)) (pa_cons (pe_op op_add (pe_callB call_len_seq (by rfl) T.z_len bo_len (pa_cons (pv 3) pa_nil)) pe_int) (pa_cons pe_int (pa_cons (pe_un un_neg pe_int) (pa_cons (pe_op op_pow pe_int pe_int) pa_nil))))))))) (pe_op op_mod (pe_ix ix_list (pv 6) pe_int (fun _ _ => rfl)) pe_int) (fun _ _ => rfl)))
          (pss_one (ps_ret (pe_tupS (pa_cons (pv 7) (pa_cons (pv 10) (pa_cons (pe_op op_mod (pe_ix ix_list (pv 6) pe_int (fun _ _ => rfl)) pe_int) (pa_cons pe_int pa_nil))))))))
        pss_nil)
      (pss_cut (ps_set (i := 11) sc_w_deed.nd rfl (by walk_at "O") (pe_op op_mod (pe_op op_fdiv (pe_ix ix_list (pv 6) pe_int (fun _ _ => rfl)) pe_int) pe_int))
      (pss_cons (ps_if (pt_cmpR op_ne (pv 7) pe_str (nomark _)) (pss_cut (ps_set (i := 12) sc_w_deed.nd rfl (by walk_at "O") (pe_ix ix_list (pe_lstS (pa_cons (pe_op op_sub (pe_op op_mod (pe_ix ix_list (pv 6) pe_int (fun _ _ => rfl)) pe_int) pe_int) (pa_cons (pe_op op_sub (pe_op op_mod (pe_ix ix_list (pv 6) pe_int (fun _ _ => rfl)) pe_int) pe_int) (pa_cons pe_int (pa_cons (pe_op op_sub (pe_op op_mod (pe_ix ix_list (pv 6) pe_int (fun _ _ => rfl)) pe_int) pe_int) (pa_cons (pe_call (ok_w_menu T) (hr.mono (by decide)) (by rfl) T.d_w_menu.m T.d_w_menu.F.kp T.d_w_menu.b .nil pass0 (pa_cons (pe_ix ix_list (pv 6) pe_int (fun _ _ => rfl)) pa_nil)) (pa_cons pe_int pa_nil))))))) (pv 11) (fun _ _ => rfl)))
          (pss_cons (ps_set (i := 13) sc_w_deed.nd rfl (by walk_at "O") (pe_ix ix_list (pe_lstS (pa_cons (pv 12) (pa_cons (pe_op op_sub (pe_op op_mod (pe_ix ix_list (pv 6) pe_int (fun _ _ => rfl)) pe_int) pe_int) (pa_cons (pe_op op_mod (pe_ix ix_list (pv 6) pe_int (fun _ _ => rfl)) pe_int) (pa_cons (pe_op op_sub (pe_op op_mod (pe_ix ix_list (pv 6) pe_int (fun _ _ => rfl)) pe_int) pe_int) (pa_cons (pe_call (ok_w_menu T) (hr.mono (by decide)) (by rfl) T.d_w_menu.m T.d_w_menu.F.kp T.d_w_menu.b .nil pass0 (pa_cons (pe_ix ix_list (pv 6) pe_int (fun _ _ => rfl)) pa_nil)) (pa_cons pe_int pa_nil))))))) (pv 11) (fun _ _ => rfl)))
          (pss_one (ps_ret (pe_tupS (pa_cons (pv 7) (pa_cons (pv 9) (pa_cons (pv 12) (pa_cons (pv 13) pa_nil)))))))))
        pss_nil)
      (pss_cons (ps_set (i := 14) sc_w_deed.nd rfl (by walk_at "O") (pe_op op_mul (pv 9) (pe_op op_sub (pe_op op_mod (pe_op op_fdiv (pv 4) pe_int) pe_int) pe_int)))
      (pss_cut (ps_set (i := 15) sc_w_deed.nd rfl (by walk_at "O") (pe_lstS (pa_cons (pe_op op_sub (pe_op op_mod (pe_ix ix_list (pv 6) pe_int (fun _ _ => rfl)) pe_int) pe_int) (pa_cons (pe_op op_sub (pe_op op_mod (pe_ix ix_list (pv 6) pe_int (fun _ _ => rfl)) pe_int) pe_int) pa_nil))))
      (pss_cut (ps_set (i := 16) sc_w_deed.nd rfl (by walk_at "O") (pe_ix ix_list (pe_lstS (pa_cons (pe_ix ix_list (pv 15) pe_int (fun _ _ => rfl)) (pa_cons (pe_op op_sub (pe_op op_mod (pe_ix ix_list (pv 6) pe_int (fun _ _ => rfl)) pe_int) pe_int) (pa_cons (pe_op op_sub (pv 14) (pe_op op_mod (pe_ix ix_list (pv 6) pe_int (fun _ _ => rfl)) pe_int)) (pa_cons (pv 14) (pa_cons (pe_call (ok_w_menu T) (hr.mono (by decide)) (by rfl) T.d_w_menu.m T.d_w_menu.F.kp T.d_w_menu.b .nil pass0 (pa_cons (pe_ix ix_list (pv 6) pe_int (fun _ _ => rfl)) pa_nil)) (pa_cons (pe_ix ix_list (pv 15) pe_int (fun _ _ => rfl)) pa_nil))))))) (pv 11) (fun _ _ => rfl)))
      (pss_cons (ps_set (i := 17) sc_w_deed.nd rfl (by walk_at "O") (pe_ix ix_list (pe_lstS (pa_cons (pe_op op_sub (pe_op op_add (pv 16) (pe_op op_mod (pe_ix ix_list (pv 6) pe_int (fun _ _ => rfl)) pe_int)) pe_int) (pa_cons (pe_op op_sub (pe_op op_add (pv 16) (pe_op op_mod (pe_ix ix_list (pv 6) pe_int (fun _ _ => rfl)) pe_int)) pe_int) (pa_cons (pe_op op_add (pv 14) (pe_op op_mod (pe_ix ix_list (pv 6) pe_int (fun _ _ => rfl)) pe_int)) (pa_cons (pv 14) (pa_cons (pe_call (ok_w_menu T) (hr.mono (by decide)) (by rfl) T.d_w_menu.m T.d_w_menu.F.kp T.d_w_menu.b .nil pass0 (pa_cons (pe_ix ix_list (pv 6) pe_int (fun _ _ => rfl)) pa_nil)) (pa_cons (pe_ix ix_list (pv 15) pe_int (fun _ _ => rfl)) pa_nil))))))) (pv 11) (fun _ _ => rfl)))
      (pss_one (ps_ret (pe_tupS (pa_cons (pv 7) (pa_cons (pv 9) (pa_cons (pv 16) (pa_cons (pv 17) pa_nil))))))))))))))))))))), ?_⟩
    walk_at "Q"
    delta sp_w_how
    refine ⟨⟨_, hS⟩, fun H1 v s1 => ?_⟩
    walk_at "NX"
    have hS1 := s1.seq hS
    have hn : 0 < ns.length := by omega
    walk_at "Q"
    walk_at "RD"
    refine ⟨_, hS1, _, atI_ints (by omega) (by omega), _, rfl, ?_⟩
    walk_at "NX"
    generalize ns.getD (Int.toNat 0) 0 = c0 at *
    generalize decide (c0 % 2 = 0) = mx at *
    walk_at "Q"
    walk_at "RD"
    refine ⟨_, hS1, _, atI_ints (by omega) (by omega), _, hS1, _, atI_ints (by omega) (by omega), _, rfl, by decide, fun z1 H2 n2 s2 e2 => ?_⟩
    generalize ns.getD k0.toNat 0 = ck at *
    refine ⟨_, SqL.of e2, _, atI_ints (xs := [ck, ck + 977 * k0]) (by split <;> omega) (by simp only [List.length_cons, List.length_nil]; split <;> omega), ?_⟩
    refine ⟨_, 5, _, rfl, by decide, by decide, fun R H3 rs n3 s3 e3 l3 => ?_⟩
    walk_at "NX"
    have s13 := s1.trans (s2.trans s3)
    refine ⟨fun σ' H' => ∃ w, σ' = [some (.ref a), some (.int k0), some (.ref D), some (.ref L), some (.int v), some (.bl mx), some (.ref R), some (.str w), none, none, none, none, none, none, none, none, none, none] ∧ Same H3 H' ∧ Wrd w, ?_, ?_⟩
    · walk_at "RD"
      refine ⟨by decide, fun z2 H4 n4 s4 e4 => ?_⟩
      obtain ⟨w, hw, wd⟩ := deedW (e := rs.getD 0 0 % 7) (by omega) (by omega)
      exact ⟨_, SqL.of (s4.get e3), _, atI_ints (by omega) (by omega), _, rfl, _, SqL.of e4, _, hw, _, rfl, s4, wd⟩
    rintro σ' H4 ⟨w, rfl, s4, wd⟩
    have s14 := s13.trans s4
    have e34 := s4.get e3
    clear s1 s2 s3 s4 s13 e2 e3 n2 n3
    walk_at "Q"
    walk_at "RD"
    refine ⟨by decide, fun z3 H5 n5 s5 e5 => ?_⟩
    obtain ⟨pool, hpool, hp2⟩ := atL4 (x := 5) (y := 13) (z := 45) (t := 2003) (e := v / 2 % 4) (by omega) (by omega)
    have hp3 : 0 < pool := by omega
    have e35 := s5.get e34
    refine ⟨_, SqL.of e5, _, hpool, ?_⟩
    walk_at "NX"
    walk_at "Q"
    walk_at "RD"
    refine ⟨_, SqL.of e35, _, atI_ints (by omega) (by omega), _, rfl, by omega, ?_⟩
    walk_at "NX"
    refine ⟨fun σ' H' => ∃ pl : Int, σ' = [some (.ref a), some (.int k0), some (.ref D), some (.ref L), some (.int v), some (.bl mx), some (.ref R), some (.str w), some (.int pool), some (.int pl), none, none, none, none, none, none, none, none] ∧ Same H5 H', ?_, ?_⟩
    · delta rSortD
      have hd5 := hd.same (s14.trans s5)
      obtain ⟨kvs, ks, eD, e2, pm, _⟩ := hd5.at_
      have lk := pm.length_eq
      rw [List.length_map] at lk
      have lkv : kvs.length = ks.length := by have := congrArg List.length e2; simpa using this
      refine ⟨_, SqL.of e35, _, atI_ints (by omega) (by omega), _, rfl, ?_⟩
      by_cases hc : rs.getD (Int.toNat 4) 0 % 2 = 1
      · rw [if_pos (decide_eq_true hc)]
        refine ⟨kvs, eD, ?_⟩
        by_cases h0 : 0 < kvs.length
        · rw [if_pos (decide_eq_true (by omega))]
          refine ⟨kvs, eD, ks, e2, by omega, fun Ds Hs ks' ns' ss es pm' so => ?_⟩
          have lks := pm'.length_eq
          have q1 := Int.emod_nonneg (rs.getD (Int.toNat 1) 0) (show (kvs.length : Int) ≠ 0 by omega)
          have q2 := Int.emod_lt_of_pos (rs.getD (Int.toNat 1) 0) (show (0 : Int) < kvs.length by omega)
          exact ⟨_, SqL.of (ss.get e35), _, atI_ints (by omega) (by omega), kvs, ss.get eD, _, rfl, by omega, _, SqL.of es, _, atI_ints q1 (by omega), ⟨_, rfl⟩, ss⟩
        · rw [if_neg (fun z => h0 (by have := of_decide_eq_true z; omega))]
          exact ⟨⟨_, rfl⟩, Same.refl _⟩
      · rw [if_neg (fun z => hc (of_decide_eq_true z))]
        exact ⟨⟨_, rfl⟩, Same.refl _⟩
    rintro σ' H6 ⟨pl, rfl, s6⟩
    have s16 := s14.trans (s5.trans s6)
    have e36 := s6.get e35
    have eL6 := s16.get eL
    clear s14 s5 s6 e34 e35 e5 n5
    walk_at "Q"
    walk_at "RD"
    by_cases hb : w = "back"
    · rw [if_pos (decide_eq_true hb)]
      refine ⟨_, SqL.of e36, _, atI_ints (by omega) (by omega), _, rfl, _, .inl (SqL.of eL6), _, .inl (SqL.of eL6), by decide, fun z7 H7 n7 s7 e7 => ?_⟩
      have e37 := s7.get e36
      refine ⟨_, SqL.of e37, _, atI_ints (by omega) (by omega), _, rfl, _, SqL.of e7, exInt rfl (by omega) (by simp only [List.length_cons, List.length_nil]; omega) fun m => ?_⟩
      exact ⟨_, SqL.of e37, _, atI_ints (by omega) (by omega), _, rfl, by decide, fun D8 H8 n8 s8 e8 => k D8 H8 w _ _ _ (s16.free (s7.free n8)) (s16.trans (s7.trans s8)) e8 wd⟩
    rw [if_neg (fun z => hb (of_decide_eq_true z))]
    walk_at "NX"
    refine ⟨fun σ' H' => ∃ kd : Int, σ' = [some (.ref a), some (.int k0), some (.ref D), some (.ref L), some (.int v), some (.bl mx), some (.ref R), some (.str w), some (.int pool), some (.int pl), none, some (.int kd), none, none, none, none, none, none] ∧ H' = H6 ∧ 0 ≤ kd ∧ kd < 6, ?_, ?_⟩
    · walk_at "RD"
      exact ⟨_, SqL.of e36, _, atI_ints (by omega) (by omega), _, rfl, by omega, by omega⟩
    rintro σ' H7 ⟨kd, rfl, rfl, k0', k6⟩
    walk_at "Q"
    walk_at "RD"
    by_cases hp : w = "put"
    · rw [if_neg (by simp [hp])]
      walk_at "NX"
      walk_at "RD"
      refine ⟨.inr ⟨by omega, by omega⟩, ?_⟩
      generalize pl * (v / 8 % 5 - 2) = ln at *
      refine ⟨fun σ' H' => ∃ A u1 u2, σ' = [some (.ref a), some (.int k0), some (.ref D), some (.ref L), some (.int v), some (.bl mx), some (.ref R), some (.str w), some (.int pool), some (.int pl), none, some (.int kd), none, none, some (.int ln), some (.ref A), none, none] ∧ Same H7 H' ∧ H' A = some (.lst [.int u1, .int u2]), ?_, ?_⟩
      · walk_at "RD"
        walk_at "AUTO"
        exact ⟨_, _, he⟩
      rintro σ' H8 ⟨A, u1, u2, rfl, s8, e8⟩
      have e38 := s8.get e36
      refine ⟨fun σ' H' => ∃ ft : Int, σ' = [some (.ref a), some (.int k0), some (.ref D), some (.ref L), some (.int v), some (.bl mx), some (.ref R), some (.str w), some (.int pool), some (.int pl), none, some (.int kd), none, none, some (.int ln), some (.ref A), some (.int ft), none] ∧ Same H8 H', ?_, ?_⟩
      · delta sp_w_menu
        walk_at "AUTO"
        intro H' v s'
        exact ⟨_, SqL.of (s'.get e8), _, rfl, by decide, fun p H2 n2 s2 e2 => ⟨_, SqL.of e2, exInt rfl (by omega) (by simp only [List.length_cons, List.length_nil]; omega) fun i => ⟨⟨_, rfl⟩, s'.trans s2⟩⟩⟩
      rintro σ' H9 ⟨ft, rfl, s9⟩
      have e39 := s9.get e38
      have e89 := s9.get e8
      have s19 := s16.trans (s8.trans s9)
      delta sp_w_menu
      walk_at "AUTO"
      intro H' v s'
      exact ⟨_, SqL.of (s'.get e89), _, rfl, by decide, fun p H2 n2 s2 e2 => ⟨_, SqL.of e2, exInt rfl (by omega) (by simp only [List.length_cons, List.length_nil]; omega) fun i => ⟨by decide, fun D8 H8 n8 s8 e8 => k D8 H8 w _ _ _ (s19.free (s'.free (s2.free n8))) (s19.trans (s'.trans (s2.trans s8))) e8 wd⟩⟩⟩
    · rw [if_pos (by simp [hp])]
      refine ⟨fun σ' H' => ∃ on : Int, σ' = [some (.ref a), some (.int k0), some (.ref D), some (.ref L), some (.int v), some (.bl mx), some (.ref R), some (.str w), some (.int pool), some (.int pl), none, some (.int kd), some (.int on), none, none, none, none, none] ∧ Same H7 H', ?_, ?_⟩
      · delta sp_w_menu
        walk_at "AUTO"
        intro H' v s'
        exact ⟨by decide, fun p H2 n2 s2 e2 => ⟨_, SqL.of e2, exInt rfl (by omega) (by simp only [List.length_cons, List.length_nil]; omega) fun i => ⟨⟨_, rfl⟩, s'.trans s2⟩⟩⟩
      rintro σ' H9 ⟨ft, rfl, s9⟩
      have e39 := s9.get e36
      have s19 := s16.trans s9
      delta sp_w_menu
      walk_at "AUTO"
      intro H' v s'
      exact ⟨by decide, fun p H2 n2 s2 e2 => ⟨_, SqL.of e2, exInt rfl (by omega) (by simp only [List.length_cons, List.length_nil]; omega) fun i => ⟨by decide, fun D8 H8 n8 s8 e8 => k D8 H8 w _ _ _ (s19.free (s'.free (s2.free n8))) (s19.trans (s'.trans (s2.trans s8))) e8 wd⟩⟩⟩
theorem sc_w_picked : FnScope ["_law_script", "_law_k", "_law_stands", "_law_most", "_law_mixed", "_law_row", "_law_chosen", "_law_j", "_law_place"] ["_law_script", "_law_k", "_law_stands", "_law_most"] (defScope s_w_picked) := by walk_at "SC"
def sp_w_picked (K : PySem.W.Frag) : Sp := fun vs H Q _ => ∃ (a : Addr) (k : Int) (ns : List Int) (D : Addr) (gs : List G) (most : Nat), vs = [.ref a, .int k, .ref D, .int most] ∧ SqL K H a (ns.map V.int) ∧ 0 ≤ k ∧ k < ns.length ∧ ns.length ≤ 63 ∧ DkAt H D gs ∧ Std gs ∧ gs ≠ [] ∧ 0 < most ∧ most ≤ 40 ∧ ∀ (R : Addr) (H' : Hp) (ps : List Int), Same H H' → H' R = some (.lst (ps.map V.int)) → ps ≠ [] → ps.Nodup → ps.length ≤ most → (∀ p ∈ ps, p ∈ places gs) → Q (.ref R) H'
theorem ok_w_picked (T : Tx K mg) : FnOk P w K mg base CX0 2 T.f_w_picked T.fd_w_picked ["_law_script", "_law_k", "_law_stands", "_law_most"] (sp_w_picked K) := by
  refine T.d_w_picked.F.ok sc_w_picked (fun vs H Q E h => ?_) (fun cdv A outer s H vs Q E hr h => ?_)
  · obtain ⟨a, k0, ns, D, gs, most, rfl, hS, h0, h1, h63, hd, sd, ne, m0, m40, k⟩ := h
    rfl
  · obtain ⟨a, k0, ns, D, gs, most, rfl, hS, h0, h1, h63, hd, sd, ne, m0, m40, k⟩ := h
    have hu := hu_of hr
    refine ⟨_, (pss_cons (ps_set (i := 4) sc_w_picked.nd rfl (by walk_at "O") (pe_cmpR op_eq (pe_op op_mod (pe_ix ix_list (pv 0) pe_int (fun _ _ => rfl)) pe_int) pe_int (nomark _)))
      (pss_cut (ps_set (i := 5) sc_w_picked.nd rfl (by walk_at "O") (pe_call (ok_w_spread T) (hr.mono (by decide)) (by rfl) T.d_w_spread.m T.d_w_spread.F.kp T.d_w_spread.b .nil pass0 (pa_cons (pe_ix ix_list (pe_lstS (pa_cons (pe_op op_fdivP (pe_ix ix_list (pv 0) (pv 1) (fun _ _ => rfl)) (pe_op op_pow pe_int pe_int)) (pa_cons (pe_op op_add (pe_ix ix_list (pv 0) (pv 1) (fun _ _ => rfl)) (pe_op op_mul pe_int (pv 1))) pa_nil))) (pe_callTy call_intB (by rfl) T.z_int bo_int (pa_cons (pv 4) pa_nil)) (fun _ _ => rfl)) (pa_cons (pe_op op_add (pe_callB call_lenD (by rfl) T.z_len bo_len (pa_cons (pv 2) pa_nil)) pe_int) (pa_cons (pv 4) pa_nil)))))
      (pss_cons (ps_set (i := 6) sc_w_picked.nd rfl (by walk_at "O") (pe_lstS pa_nil))
      (pss_cons (ps_for PassesOwn.never rfl (pi_enum (by rfl) T.z_enumerate (pa_cons (pe_callB (call_sortedD (by rfl)) (by rfl) T.z_sorted bo_sorted (pa_cons (pv 2) pa_nil)) pa_nil)) (pg_tup (n := 2) rfl (pgs_cons (pg_name (i := 7) sc_w_picked.nd rfl (by walk_at "O")) (pgs_cons (pg_name (i := 8) sc_w_picked.nd rfl (by walk_at "O")) pgs_nil)))
        (pss_cut (ps_if (pt_cmpR op_eq (pe_op op_mod (pe_ix ix_list (pv 5) (pv 7) (fun _ _ => rfl)) pe_int) pe_int (nomark _)) (pss_one (ps_set (i := 6) sc_w_picked.nd rfl (by walk_at "O") (pe_op op_catS (pv 6) (pe_lstS (pa_cons (pv 8) pa_nil)))))
            pss_nil)
          (pss_one (ps_if (pt_cmpR op_eq (pe_op op_mod (pe_ix ix_list (pv 5) (pv 7) (fun _ _ => rfl)) pe_int) pe_int (nomark _)) (pss_one (ps_set (i := 6) sc_w_picked.nd rfl (by walk_at "O") (pe_op op_catS (pe_lstS (pa_cons (pv 8) pa_nil)) (pv 6))))
            pss_nil))))
      (pss_cut (ps_if (pt_cmpR (op_eqL0 (Nat.lt_of_succ_lt hu)) (pv 6) (pe_lstS pa_nil) (nomark _)) (pss_one (ps_set (i := 6) sc_w_picked.nd rfl (by walk_at "O") (pe_slice sl_listS (pe_callB (call_sortedD (by rfl)) (by rfl) T.z_sorted bo_sorted (pa_cons (pv 2) pa_nil)) po_none (po_some (pe_op op_add pe_int (pe_op op_mod (pe_ix ix_list (pv 5) (pe_callB call_lenD (by rfl) T.z_len bo_len (pa_cons (pv 2) pa_nil)) (fun _ _ => rfl)) pe_int))))))
        pss_nil)
      (pss_one (ps_ret (pe_slice sl_listS (pv 6) po_none (po_some (pv 3)))))))))), ?_⟩
    have l40 := sd.len
    obtain ⟨kvs, eD, lD⟩ := hd.len
    walk_at "RD"
    refine ⟨_, hS, _, atI_ints (by omega) (by omega), _, rfl, ?_⟩
    generalize decide (ns.getD (Int.toNat 0) 0 % 2 = 0) = mx at *
    refine ⟨fun σ' H' => ∃ Dr rs, σ' = [some (.ref a), some (.int k0), some (.ref D), some (.int most), some (.bl mx), some (.ref Dr), none, none, none] ∧ Same H H' ∧ H' Dr = some (.lst (List.map V.int rs)) ∧ rs.length = gs.length + 1, ?_, ?_⟩
    · walk_at "RD"
      refine ⟨_, hS, _, atI_ints (by omega) (by omega), by decide, _, rfl, Sm.of (n := 10 ^ 120) (by omega) (by decide +kernel), _, hS, _, atI_ints (by omega) (by omega), _, rfl, by decide, fun z H' n s e => ?_⟩
      refine ⟨_, SqL.of e, exInt rfl (by split <;> omega) (by simp only [List.length_cons, List.length_nil]; split <;> omega) fun v => ?_⟩
      refine ⟨kvs, s.get eD, ?_⟩
      exact ⟨v, _, mx, rfl, by omega, by omega, fun Dr H2 rs n2 s2 e2 l2 => ⟨Dr, rfl, s.trans s2, rs, e2, by omega⟩⟩
    rintro σ' H1 ⟨Dr, rs, rfl, s1, eDr, lrs⟩
    have hd1 := hd.same s1
    walk_at "RD"
    refine ⟨by decide, fun C0 H2 n2 s2 e2 => ?_⟩
    have hd2 := hd1.same s2
    have lpl : (places gs).length = gs.length := List.length_map ..
    have hnd : (places gs).Nodup := sd.nd
    refine for_enumS rfl hd2 sd fun R H3 n3 s3 e3 => ?_
    refine for_enum (xs := (places gs).map V.int) (fun i σ H' => ∃ (o7 o8 : Option V) (C : Addr) (cs : List Int), σ = [some (.ref a), some (.int k0), some (.ref D), some (.int most), some (.bl mx), some (.ref Dr), some (.ref C), o7, o8] ∧ Same H3 H' ∧ H' C = some (.lst (cs.map V.int)) ∧ cs.Nodup ∧ (∀ p ∈ cs, p ∈ (places gs).take i)) ⟨none, none, C0, [], rfl, Same.refl _, s3.get e2, by simp, by simp⟩ (fun _ _ _ _ ⟨_, _, _, _, _, s, _⟩ => SqL.of (s.get e3)) ?_ ?_
    · rintro i vv σ H4 pp H5 hx ⟨o7, o8, C, cs, rfl, s4, eC, nd, sub⟩ hn s5 e5
      have hi : i < gs.length := by
        have := (List.getElem?_eq_some_iff.mp hx).1
        rw [List.length_map, lpl] at this
        exact this
      have hi2 : i < (places gs).length := by omega
      have ex : vv = V.int (places gs)[i] := by
        rw [List.getElem?_map, List.getElem?_eq_getElem hi2] at hx
        exact (Option.some.inj hx).symm
      subst ex
      have et : (places gs).take (i + 1) = (places gs).take i ++ [(places gs)[i]] := List.take_succ_eq_append_getElem hi2
      have hni : (places gs)[i] ∉ (places gs).take i := by
        have := hnd.sublist (List.take_sublist (i + 1) (places gs))
        rw [et, List.nodup_append] at this
        exact fun z => this.2.2 _ z _ (List.mem_singleton.mpr rfl) rfl
      have eDr5 := s5.get (s4.get (s3.get (s2.get eDr)))
      have ls := sub_len nd sub
      rw [List.length_take] at ls
      generalize (places gs)[i] = pl at *
      delta gTup gCons gNil
      refine ⟨_, SqT.of e5, rfl, _, _, rfl, _, _, rfl, rfl, ?_⟩
      refine ⟨fun σ' H' => ∃ (C : Addr) (cs : List Int), σ' = [some (.ref a), some (.int k0), some (.ref D), some (.int most), some (.bl mx), some (.ref Dr), some (.ref C), some (.int i), some (.int pl)] ∧ Same H5 H' ∧ H' C = some (.lst (cs.map V.int)) ∧ cs.Nodup ∧ (∀ p ∈ cs, p ∈ (places gs).take (i + 1)) ∧ (rs.getD i 0 % 3 = 2 → ∀ p ∈ cs, p ∈ (places gs).take i), ?_, ?_⟩
      · walk_at "RD"
        refine ⟨_, SqL.of eDr5, _, atI_ints (by omega) (by omega), _, rfl, ?_⟩
        rw [Int.toNat_natCast]
        by_cases hc : rs.getD i 0 % 3 = 1
        · rw [if_pos (decide_eq_true hc)]
          refine ⟨by decide, fun z1 H6 n6 s6 e6 => ⟨_, s6.get (s5.get eC), _, e6, by rw [List.length_map, PySem.sizeLine_eq]; simp only [List.length_cons, List.length_nil]; omega, fun z2 H7 n7 s7 e7 => ⟨s6.trans s7, cs ++ [pl], by rw [e7, List.map_append]; rfl, ?_, ?_, fun z => by omega⟩⟩⟩
          · rw [List.nodup_append]
            exact ⟨nd, by simp, fun x hx y hy e => hni (by rw [List.mem_singleton.mp hy] at e; rw [← e]; exact sub x hx)⟩
          · intro p hp
            rw [et]
            rcases List.mem_append.mp hp with z | z
            · exact List.mem_append_left _ (sub p z)
            · exact List.mem_append_right _ z
        · rw [if_neg (fun z => hc (of_decide_eq_true z))]
          exact ⟨Same.refl _, cs, s5.get eC, nd, fun p hp => by rw [et]; exact List.mem_append_left _ (sub p hp), fun _ => sub⟩
      rintro σ' H6 ⟨C', cs', rfl, s6, eC', nd', sub', sub2⟩
      walk_at "RD"
      refine ⟨_, SqL.of (s6.get eDr5), _, atI_ints (by omega) (by omega), _, rfl, ?_⟩
      rw [Int.toNat_natCast]
      by_cases hc : rs.getD i 0 % 3 = 2
      · rw [if_pos (decide_eq_true hc)]
        have sub3 := sub2 hc
        have ls' := sub_len nd' sub3
        rw [List.length_take] at ls'
        refine ⟨by decide, fun z1 H7 n7 s7 e7 => ⟨_, e7, _, s7.get eC', by rw [List.length_map, PySem.sizeLine_eq]; simp only [List.length_cons, List.length_nil]; omega, fun z2 H8 n8 s8 e8 => ⟨⟨_, rfl⟩, ⟨_, rfl⟩, s4.trans (s5.trans (s6.trans (s7.trans s8))), pl :: cs', by rw [e8]; rfl, ?_, ?_⟩⟩⟩
        · rw [List.nodup_cons]
          exact ⟨fun z => hni (sub3 pl z), nd'⟩
        · intro p hp
          rw [et]
          rcases List.mem_cons.mp hp with z | z
          · exact List.mem_append_right _ (List.mem_singleton.mpr z)
          · exact List.mem_append_left _ (sub3 p z)
      · rw [if_neg (fun z => hc (of_decide_eq_true z))]
        exact ⟨⟨_, rfl⟩, ⟨_, rfl⟩, s4.trans (s5.trans s6), cs', eC', nd', sub'⟩
    rintro σ H4 ⟨o7, o8, C, cs, rfl, s4, eC, nd, sub⟩
    have s14 := s2.trans (s3.trans s4)
    have eDr4 := s14.get eDr
    have hd4 := hd1.same s14
    rw [List.length_map, List.take_length] at sub
    refine ⟨fun σ' H' => ∃ (C : Addr) (cs : List Int), σ' = [some (.ref a), some (.int k0), some (.ref D), some (.int most), some (.bl mx), some (.ref Dr), some (.ref C), o7, o8] ∧ Same H4 H' ∧ H' C = some (.lst (cs.map V.int)) ∧ cs.Nodup ∧ (∀ p ∈ cs, p ∈ places gs) ∧ cs ≠ [], ?_, ?_⟩
    · walk_at "RD"
      refine ⟨by decide, fun z1 H5 n5 s5 e5 => ⟨_, SqL.of (s5.get eC), SqL.of e5, ?_⟩⟩
      have hne : (cs.map V.int = []) ↔ cs = [] := List.map_eq_nil_iff
      by_cases hc : cs = []
      · rw [if_pos (decide_eq_true (hne.mpr hc))]
        refine sortS (hd4.same s5) sd fun R2 H6 n6 s6 e6 => ?_
        obtain ⟨kv, eD', lD'⟩ := (hd4.same (s5.trans s6)).len
        refine ⟨kv, eD', _, SqL.of (s6.get (s5.get eDr4)), _, atI_ints (by omega) (by omega), _, rfl, R2, rfl, _, SqL.of e6, fun z2 H7 n7 s7 e7 => ?_⟩
        obtain ⟨t, ht, ht1⟩ : ∃ t : Nat, 1 + rs.getD (kv.length : Int).toNat 0 % 3 = (t : Int) ∧ 0 < t := ⟨(1 + rs.getD (kv.length : Int).toNat 0 % 3).toNat, by omega, by omega⟩
        rw [ht, cutV_until, ← List.map_take] at e7
        refine ⟨s5.trans (s6.trans s7), _, e7, hnd.sublist (List.take_sublist _ _), fun p hp => List.mem_of_mem_take hp, fun z => ?_⟩
        have hz := congrArg List.length z
        rw [List.length_take, lpl, List.length_nil] at hz
        have := List.length_pos_iff.mpr ne
        omega
      · rw [if_neg (fun z => hc (hne.mp (of_decide_eq_true z)))]
        exact ⟨s5, cs, s5.get eC, nd, sub, hc⟩
    rintro σ' H5 ⟨C', cs', rfl, s5, eC', nd', sub', ne'⟩
    walk_at "RD"
    refine ⟨_, SqL.of eC', fun z2 H6 n6 s6 e6 => ?_⟩
    rw [cutV_until, ← List.map_take] at e6
    refine k z2 H6 (cs'.take most) (s1.trans (s14.trans (s5.trans s6))) e6 (fun z => ?_) (nd'.sublist (List.take_sublist _ _)) (by rw [List.length_take]; omega) fun p hp => sub' p (List.mem_of_mem_take hp)
    have hz := congrArg List.length z
    rw [List.length_take, List.length_nil] at hz
    have := List.length_pos_iff.mpr ne'
    omega
theorem sc_w_gates_at : FnScope ["_law_stands", "_law_places"] ["_law_stands", "_law_places"] (defScope s_w_gates_at) := by walk_at "SC"
def sp_w_gates_at (K : PySem.W.Frag) : Sp := fun vs H Q _ => ∃ (d l : Addr) (gs : List G) (ps : List Int), vs = [.ref d, .ref l] ∧ DkAt H d gs ∧ Asc gs ∧ SqL K H l (ps.map V.int) ∧ ps.length ≤ 1000 ∧ (∀ p ∈ ps, p ∈ places gs) ∧ ∀ D H' as, H D = none → Same H H' → H' D = some (.lst (as.map V.ref)) → GsAt H' as (picks gs ps) → Q (.ref D) H'
theorem ok_w_gates_at (T : Tx K mg) : FnOk P w K mg base CX0 1 T.f_w_gates_at T.fd_w_gates_at ["_law_stands", "_law_places"] (sp_w_gates_at K) := by
  refine T.d_w_gates_at.F.ok sc_w_gates_at (fun vs H Q E h => ?_) (fun cdv A outer s H vs Q E hr h => ?_)
  · obtain ⟨d, l, gs, ps, rfl, hd, ac, hl, h1, hs, k⟩ := h
    rfl
  · obtain ⟨d, l, gs, ps, rfl, hd, ac, hl, h1, hs, k⟩ := h
    have hu := hu_of hr
    refine ⟨_, (pss_one (ps_ret (pe_comp rfl (⟨rfl, by decide +kernel, by decide +kernel, by decide +kernel, rfl, by decide +kernel, by with_unfolding_all rfl, by rfl, by rfl, by rfl⟩ : CompSt _ _ "_law_place" ["_law_stands"] [0]) (pi_list (pv 1)) (fun _ _ _ _  => (pe_tupS (pa_cons (pv 0) (pa_cons (pe_ix (ix_tupK (K := K) rfl) (pe_dget (hu) (pv 1) (pv 0) (fun _ _ => rfl)) pe_int (fun _ _ => rfl)) (pa_cons (pe_ix (ix_tupK (K := K) rfl) (pe_dget (hu) (pv 1) (pv 0) (fun _ _ => rfl)) pe_int (fun _ _ => rfl)) pa_nil))))) (fun _ _ _ _ => pts_nil)))), ?_⟩
    delta iList
    refine ⟨⟨_, hl⟩, fun D nD => ?_⟩
    refine comp_gates (gs := picks gs ps) (by rw [picks_places hs]; exact hl) nD (by rw [picks_len hs]; omega) (fun g H2 R hg s2 hR => ?_) fun H2 as s2 e2 ga => k D H2 as nD s2 e2 ga
    obtain ⟨o, gt, _, hq⟩ := (hd.same s2).get g.p
    obtain ⟨a, rfl, ea⟩ := hq g (picks_of ac hg)
    delta tDGet Option.join_some
    exact ⟨_, gt, _, rfl, _, SqT.of ea, _, rfl, _, gt, _, rfl, _, SqT.of ea, _, rfl, by decide, hR⟩
theorem sc_w_gcd : FnScope ["_law_one", "_law_two"] ["_law_one", "_law_two"] (defScope s_w_gcd) := by walk_at "SC"
def sp_w_gcd : Sp := fun vs H Q _ => ∃ a b : Int, vs = [.int a, .int b] ∧ 0 ≤ a ∧ 0 ≤ b ∧ Q (.int (Int.gcd a b)) H
def W_gcd (a b : Int) (H : Hp) : Nat → St → Hp → Prop := fun m σ H' => ∃ (d r : Int), m = r.toNat ∧ σ = [some (.int d), some (.int r)] ∧ H' = H ∧ 0 ≤ d ∧ 0 ≤ r ∧ Int.gcd d r = Int.gcd a b
theorem ok_w_gcd (T : Tx K mg) : FnOk P w K mg base CX0 1 T.f_w_gcd T.fd_w_gcd ["_law_one", "_law_two"] sp_w_gcd := by
  refine T.d_w_gcd.F.ok sc_w_gcd (fun vs H Q E h => ?_) (fun cdv A outer s H vs Q E hr h => ?_)
  · obtain ⟨a, b, rfl, ha, hb, k⟩ := h
    rfl
  · obtain ⟨a, b, rfl, ha, hb, k⟩ := h
    have hu := hu_of hr
    refine ⟨_, (pss_cons (ps_while PassesOwn.never (pt_cmpR op_ne (pv 1) pe_int (nomark _))
        (pss_one (ps_par (i := 0) (j := 1) (by rfl) sc_w_gcd.nd rfl rfl (by decide) rfl rfl (pa_cons (pv 1) (pa_cons (pe_op op_modN (pv 0) (pv 1)) pa_nil)) (by rfl))))
      (pss_one (ps_ret (pv 0)))), ?_⟩
    walk_at "RD"
    refine ⟨W_gcd a b H, ⟨_, a, b, rfl, rfl, rfl, ha, hb, rfl⟩, ?_⟩
    rintro m σ H' ⟨d, r, rfl, rfl, rfl, hd, hr', e⟩
    walk_at "RDE"
    by_cases h0 : r = 0
    · subst h0
      simp only [decide_true, Bool.not_true, Bool.false_eq_true, if_false]
      walk_at "RD"
      rw [← e, gcd_zero' hd] at k
      exact k
    · simp only [h0, decide_false, Bool.not_false, if_true]
      refine ⟨_, fun _ _ h => h, ?_⟩
      walk_at "RD"
      have hp : 0 < r := by omega
      have hf := fmod_lt (d := d) hp
      refine ⟨h0, _, ?_, r, d.fmod r, rfl, rfl, rfl, hr', hf.1, (gcd_fmod hd hp).trans e⟩
      omega
theorem sc_w_throw : FnScope ["_law_found", "_law_k"] ["_law_found"] (defScope s_w_throw) := by walk_at "SC"
def sp_w_throw (K : PySem.W.Frag) : Sp := fun vs H Q _ => ∃ (q : Addr) (x y z v : Int), vs = [.ref q] ∧ H q = some (.tup [.int x, .int y, .int z, .int v]) ∧ x.natAbs ≤ 999999999 ∧ y.natAbs ≤ 999999999 ∧ z.natAbs ≤ 999999999 ∧ v.natAbs ≤ 999999999 ∧ 0 < y ∧ 0 < v ∧ Int.gcd x y = 1 ∧ Int.gcd z v = 1 ∧ ∀ H', Same H H' → Q (.bl true) H'
def L_thr (q : Addr) (H : Hp) : Nat → St → Hp → Prop := fun i σ H' => ∃ x, σ = [some (.ref q), x] ∧ H' = H
theorem ok_w_throw (T : Tx K mg) : FnOk P w K mg base CX0 2 T.f_w_throw T.fd_w_throw ["_law_found"] (sp_w_throw K) := by
  refine T.d_w_throw.F.ok sc_w_throw (fun vs H Q E h => ?_) (fun cdv A outer s H vs Q E hr h => ?_)
  · obtain ⟨q, x, y, z, v, rfl, hq, b1, b2, b3, b4, hy, hv, g1, g2, k⟩ := h
    rfl
  · obtain ⟨q, x, y, z, v, rfl, hq, b1, b2, b3, b4, hy, hv, g1, g2, k⟩ := h
    have hu := hu_of hr
    refine ⟨_, (pss_cons (ps_if (pw_or (pt_not (pt_val (pe_callB call_isinst (by rfl) T.z_isinstance bo_isinstance (pa_cons (pv 0) (pa_cons (pe_bltn (v := .ty "tuple") (by rfl) T.z_tuple bo_tuple rfl) pa_nil))))) (pw_or1 (pt_cmpR op_ne (pe_callB call_len_seq (by rfl) T.z_len bo_len (pa_cons (pv 0) pa_nil)) pe_int (nomark _)))).pt (pss_one (ps_ret pe_bl))
        pss_nil)
      (pss_cons (ps_for PassesOwn.never rfl (pi_range1 (by rfl) T.z_range (pa_cons pe_int pa_nil)) (pg_name (i := 1) sc_w_throw.nd rfl (by walk_at "O"))
        (pss_one (ps_if (pw_or (pt_not (pt_val (pe_call (ok_w_whole T) (hr.mono (by decide)) (by rfl) T.d_w_whole.m T.d_w_whole.F.kp T.d_w_whole.b .nil pass0 (pa_cons (pe_ix ix_tup (pv 0) (pv 1) (fun _ _ => rfl)) pa_nil)))) (pw_or1 (pt_cmpR op_gt (pe_callB call_abs (by rfl) T.z_abs bo_abs (pa_cons (pe_ix ix_tup (pv 0) (pv 1) (fun _ _ => rfl)) pa_nil)) pe_int (nomark _)))).pt (pss_one (ps_ret pe_bl))
            pss_nil)))
      (pss_cons (ps_for PassesOwn.never rfl (pi_list (pe_lstS (pa_cons pe_int (pa_cons pe_int pa_nil)))) (pg_name (i := 1) sc_w_throw.nd rfl (by walk_at "O"))
        (pss_one (ps_if (pw_or (pt_cmpR op_lt (pe_ix ix_tup (pv 0) (pe_op op_add (pv 1) pe_int) (fun _ _ => rfl)) pe_int (nomark _)) (pw_or1 (pt_cmpR op_ne (pe_call (ok_w_gcd T) (hr.mono (by decide)) (by rfl) T.d_w_gcd.m T.d_w_gcd.F.kp T.d_w_gcd.b .nil pass0 (pa_cons (pe_callB call_abs (by rfl) T.z_abs bo_abs (pa_cons (pe_ix ix_tup (pv 0) (pv 1) (fun _ _ => rfl)) pa_nil)) (pa_cons (pe_ix ix_tup (pv 0) (pe_op op_add (pv 1) pe_int) (fun _ _ => rfl)) pa_nil))) pe_int (nomark _)))).pt (pss_one (ps_ret pe_bl))
            pss_nil)))
      (pss_one (ps_ret pe_bl))))), ?_⟩
    delta sp_w_whole sp_w_gcd
    walk_at "AUTO"
    refine ⟨4, rfl, by decide, by decide, for_range (n := 4) (L_thr q H) ⟨none, rfl, rfl⟩ ?_ ?_⟩
    · rintro i σ H1 hi ⟨o, rfl, rfl⟩
      obtain ⟨u, hu', bu⟩ := atLn (P := fun u => u.natAbs ≤ 999999999) (ls := [x, y, z, v]) (e := 0 + (i : Int)) (by omega) (by simp only [List.length_cons, List.length_nil]; omega) (fun u hu => by
        simp only [List.mem_cons, List.not_mem_nil, or_false] at hu
        rcases hu with rfl | rfl | rfl | rfl <;> assumption)
      have hu' : atI [V.int x, V.int y, V.int z, V.int v] (0 + (i : Int)) = some (V.int u) := hu'
      delta sp_w_whole
      walk_at "AUTO"
      exact ⟨_, rfl, rfl⟩
    · rintro σ H1 ⟨o, rfl, rfl⟩
      refine ⟨by decide, fun p H2 hn hs he => ⟨p, rfl, ⟨_, SqL.of he⟩, for_list (xs := [.int 0, .int 2]) (L_thr q H2) ⟨o, rfl, rfl⟩ ?_ ?_ ?_⟩⟩
      · rintro i σ H3 _ ⟨o, rfl, rfl⟩
        exact SqL.of he
      · rintro i w σ H3 hi ⟨o, rfl, rfl⟩
        rcases i with _ | _ | i
        · cases hi
          delta sp_w_gcd
          walk_at "AUTO"
          rw [gcd_absl, g1]
          exact iteNeg (by simp) ⟨_, rfl, rfl⟩
        · cases hi
          delta sp_w_gcd
          walk_at "AUTO"
          rw [gcd_absl, g2]
          exact iteNeg (by simp) ⟨_, rfl, rfl⟩
        · cases hi
      · rintro σ H3 ⟨o, rfl, rfl⟩
        exact k _ hs
theorem sc_w_gap : FnScope ["_law_throw_here", "_law_place", "_law_height", "_law_line"] ["_law_throw_here", "_law_place", "_law_height"] (defScope s_w_gap) := by walk_at "SC"
def sp_w_gap (K : PySem.W.Frag) : Sp := fun vs H Q _ => ∃ (q : Addr) (pl h x y z v : Int), vs = [.ref q, .int pl, .int h] ∧ SqT K H q [.int x, .int y, .int z, .int v] ∧ Md x ∧ Md y ∧ Md z ∧ Md v ∧ Md pl ∧ Md h ∧ Q (.int (x * v + z * pl * y - h * y * v)) H
theorem ok_w_gap (T : Tx K mg) : FnOk P w K mg base CX0 1 T.f_w_gap T.fd_w_gap ["_law_throw_here", "_law_place", "_law_height"] (sp_w_gap K) := by
  refine T.d_w_gap.F.ok sc_w_gap (fun vs H Q E h => ?_) (fun cdv A outer s H vs Q E hr h => ?_)
  · obtain ⟨q, pl, h, x, y, z, v, rfl, hq, mx, my, mz, mv, mp, mh, k⟩ := h
    rfl
  · obtain ⟨q, pl, h, x, y, z, v, rfl, hq, mx, my, mz, mv, mp, mh, k⟩ := h
    have hu := hu_of hr
    refine ⟨_, (pss_cons (ps_set (i := 3) sc_w_gap.nd rfl (by walk_at "O") (pe_op op_add (pe_op op_mulS (pe_ix ix_tup (pv 0) pe_int (fun _ _ => rfl)) (pe_ix ix_tup (pv 0) pe_int (fun _ _ => rfl))) (pe_op op_mulS (pe_op op_mulS (pe_ix ix_tup (pv 0) pe_int (fun _ _ => rfl)) (pv 1)) (pe_ix ix_tup (pv 0) pe_int (fun _ _ => rfl)))))
      (pss_one (ps_ret (pe_op op_sub (pv 3) (pe_op op_mulS (pe_op op_mulS (pv 2) (pe_ix ix_tup (pv 0) pe_int (fun _ _ => rfl))) (pe_ix ix_tup (pv 0) pe_int (fun _ _ => rfl))))))), ?_⟩
    have s1 := mx.sm
    have s2 := my.sm
    have s3 := mz.sm
    have s4 := mv.sm
    have s5 := mp.sm
    have s6 := mh.sm
    have s7 := mz.mulS mp
    have s8 := mh.mulS my
    walk_at "RD"
    walk_at "AUTO"
    exact k
theorem sc_w_by : FnScope ["_law_throw_here", "_law_gate"] ["_law_throw_here", "_law_gate"] (defScope s_w_by) := by walk_at "SC"
def sp_w_by (K : PySem.W.Frag) : Sp := fun vs H Q _ => ∃ (p g : Addr) (a b c d pl f h : Int), vs = [.ref p, .ref g] ∧ SqT K H p [.int a, .int b, .int c, .int d] ∧ SqT K H g [.int pl, .int f, .int h] ∧ Md a ∧ Md b ∧ Md c ∧ Md d ∧ Md pl ∧ Md f ∧ Md h ∧ Q (.bl (decide (Pas a b c d pl f h))) H
theorem ok_w_by (T : Tx K mg) : FnOk P w K mg base CX0 2 T.f_w_by T.fd_w_by ["_law_throw_here", "_law_gate"] (sp_w_by K) := by
  refine T.d_w_by.F.ok sc_w_by (fun vs H Q E h => ?_) (fun cdv A outer s H vs Q E hr h => ?_)
  · obtain ⟨p, g, a, b, c, d, pl, f, h, rfl, hp, hg, m1, m2, m3, m4, m5, m6, m7, k⟩ := h
    rfl
  · obtain ⟨p, g, a, b, c, d, pl, f, h, rfl, hp, hg, m1, m2, m3, m4, m5, m6, m7, k⟩ := h
    have hu := hu_of hr
    refine ⟨_, (pss_cons (ps_if (pt_cmpR op_lt (pe_call (ok_w_gap T) (hr.mono (by decide)) (by rfl) T.d_w_gap.m T.d_w_gap.F.kp T.d_w_gap.b .nil pass0 (pa_cons (pv 0) (pa_cons (pe_ix ix_tup (pv 1) pe_int (fun _ _ => rfl)) (pa_cons (pe_ix ix_tup (pv 1) pe_int (fun _ _ => rfl)) pa_nil)))) pe_int (nomark _)) (pss_one (ps_ret pe_bl))
        pss_nil)
      (pss_one (ps_ret (pe_cmpR op_le (pe_call (ok_w_gap T) (hr.mono (by decide)) (by rfl) T.d_w_gap.m T.d_w_gap.F.kp T.d_w_gap.b .nil pass0 (pa_cons (pv 0) (pa_cons (pe_ix ix_tup (pv 1) pe_int (fun _ _ => rfl)) (pa_cons (pe_ix ix_tup (pv 1) pe_int (fun _ _ => rfl)) pa_nil)))) pe_int (nomark _))))), ?_⟩
    have q1 : a * d + c * pl * b - f * b * d = a * d + pl * c * b - f * (b * d) := by grind
    have q2 : a * d + c * pl * b - h * b * d = a * d + pl * c * b - h * (b * d) := by grind
    delta sp_w_gap
    walk_at "AUTO"
    refine ⟨a, b, c, d, hp, m1, m2, m3, m4, m5, m6, ?_⟩
    rw [q1]
    by_cases g1 : a * d + pl * c * b - f * (b * d) < 0
    · rw [if_pos (decide_eq_true g1)]
      have e : decide (Pas a b c d pl f h) = false := by
        unfold Pas
        exact decide_eq_false (by omega)
      rw [e] at k
      exact k
    · rw [if_neg (by simpa using g1)]
      walk_at "AUTO"
      refine ⟨a, b, c, d, hp, m1, m2, m3, m4, m5, m7, ?_⟩
      rw [q2]
      have e : decide (Pas a b c d pl f h) = decide (a * d + pl * c * b - h * (b * d) ≤ 0) := by
        unfold Pas
        exact decide_eq_decide.mpr (by omega)
      rw [e] at k
      exact k
theorem sc_w_all : FnScope ["_law_throw_here", "_law_row", "_law_gate"] ["_law_throw_here", "_law_row"] (defScope s_w_all) := by walk_at "SC"
def sp_w_all (K : PySem.W.Frag) : Sp := fun vs H Q _ => ∃ (q l : Addr) (t : Thr) (as : List Addr) (gs : List G), vs = [.ref q, .ref l] ∧ SqT K H q t.vs ∧ SqL K H l (as.map V.ref) ∧ GsAt H as gs ∧ OkT t ∧ (∀ g ∈ gs, OkG g) ∧ Q (.bl (decide (∀ g ∈ gs, t.pas g))) H
def W_all (q l : Addr) (t : Thr) (gs : List G) (H : Hp) : Nat → St → Hp → Prop := fun i σ H' => ∃ x, σ = [some (.ref q), some (.ref l), x] ∧ H' = H ∧ ∀ g ∈ gs.take i, t.pas g
theorem ok_w_all (T : Tx K mg) : FnOk P w K mg base CX0 3 T.f_w_all T.fd_w_all ["_law_throw_here", "_law_row"] (sp_w_all K) := by
  refine T.d_w_all.F.ok sc_w_all (fun vs H Q E h => ?_) (fun cdv A outer s H vs Q E hr h => ?_)
  · obtain ⟨q, l, t, as, gs, rfl, hq, hl, ga, ot, ok, k⟩ := h
    rfl
  · obtain ⟨q, l, t, as, gs, rfl, hq, hl, ga, ot, ok, k⟩ := h
    have hu := hu_of hr
    refine ⟨_, (pss_cons (ps_for PassesOwn.never rfl (pi_list (pv 1)) (pg_name (i := 2) sc_w_all.nd rfl (by walk_at "O"))
        (pss_one (ps_if (pt_not (pt_val (pe_call (ok_w_by T) (hr.mono (by decide)) (by rfl) T.d_w_by.m T.d_w_by.F.kp T.d_w_by.b .nil pass0 (pa_cons (pv 0) (pa_cons (pv 2) pa_nil))))) (pss_one (ps_ret pe_bl))
            pss_nil)))
      (pss_one (ps_ret pe_bl))), ?_⟩
    have la := ga.len
    walk_at "RD"
    refine ⟨_, rfl, _, rfl, ⟨_, hl⟩, for_list (xs := as.map V.ref) (W_all q l t gs H) ⟨none, rfl, rfl, fun _ h => absurd h (by simp)⟩ (fun _ _ _ _ ⟨_, _, e, _⟩ => e ▸ hl) ?_ ?_⟩
    · rintro i x σ H1 hx ⟨y, rfl, rfl, hp⟩
      have hi : i < gs.length := by
        have := (List.getElem?_eq_some_iff.mp hx).1
        rw [List.length_map] at this
        omega
      obtain ⟨a1, ha1, t1⟩ := ga.get (List.getElem?_eq_getElem hi)
      have ex : x = V.ref a1 := by
        rw [List.getElem?_map, ha1] at hx
        exact (Option.some.inj hx).symm
      subst ex
      obtain ⟨p1, p2, p3, p4, p5⟩ := ok _ (List.getElem_mem hi)
      walk_at "RD"
      unfold sp_w_by
      refine ⟨_, _, t.a, t.b, t.c, t.d, gs[i].p, gs[i].f, gs[i].h, rfl, hq, SqT.of t1, mdOf ot.a1 (by decide +kernel), mdOf ot.b1 (by decide +kernel), mdOf ot.c1 (by decide +kernel), mdOf ot.d1 (by decide +kernel), mdOf (n := 1000) (by omega) (by decide +kernel), mdOf (n := 1000) (by omega) (by decide +kernel), mdOf (n := 1000) (by omega) (by decide +kernel), ?_⟩
      walk_at "AUTO"
      by_cases h1 : t.pas gs[i]
      · rw [decide_eq_true h1]
        walk_at "AUTO"
        refine ⟨_, rfl, rfl, fun g hg => ?_⟩
        rw [List.take_succ_eq_append_getElem hi] at hg
        rcases List.mem_append.mp hg with z | z
        · exact hp g z
        · rw [List.mem_singleton.mp z]; exact h1
      · rw [decide_eq_false h1]
        walk_at "AUTO"
        rw [decide_eq_false (fun z => h1 (z _ (List.getElem_mem hi)))] at k
        exact k
    · rintro σ H1 ⟨y, rfl, rfl, hp⟩
      rw [List.length_map, la, List.take_length] at hp
      walk_at "RD"
      rw [decide_eq_true hp] at k
      exact k
theorem sc_w_bars : FnScope ["_law_one", "_law_two", "_law_three_here", "_law_wide", "_law_heads", "_law_feet"] ["_law_one", "_law_two", "_law_three_here"] (defScope s_w_bars) := by walk_at "SC"
def sp_w_bars (K : PySem.W.Frag) : Sp := fun vs H Q _ => ∃ (x y z : Addr) (a b c : G), vs = [.ref x, .ref y, .ref z] ∧ SqT K H x (G.vs a) ∧ SqT K H y (G.vs b) ∧ SqT K H z (G.vs c) ∧ OkG a ∧ OkG b ∧ OkG c ∧ Q (.bl (decide (Bars a b c))) H
theorem ok_w_bars (T : Tx K mg) : FnOk P w K mg base CX0 1 T.f_w_bars T.fd_w_bars ["_law_one", "_law_two", "_law_three_here"] (sp_w_bars K) := by
  refine T.d_w_bars.F.ok sc_w_bars (fun vs H Q E h => ?_) (fun cdv A outer s H vs Q E hr h => ?_)
  · obtain ⟨x, y, z, a, b, c, rfl, ex, ey, ez, o1, o2, o3, k⟩ := h
    rfl
  · obtain ⟨x, y, z, a, b, c, rfl, ex, ey, ez, o1, o2, o3, k⟩ := h
    have hu := hu_of hr
    refine ⟨_, (pss_cons (ps_set (i := 3) sc_w_bars.nd rfl (by walk_at "O") (pe_op op_sub (pe_ix ix_tup (pv 2) pe_int (fun _ _ => rfl)) (pe_ix ix_tup (pv 0) pe_int (fun _ _ => rfl))))
      (pss_cons (ps_set (i := 4) sc_w_bars.nd rfl (by walk_at "O") (pe_op op_add (pe_op op_mul (pe_ix ix_tup (pv 0) pe_int (fun _ _ => rfl)) (pe_op op_sub (pe_ix ix_tup (pv 2) pe_int (fun _ _ => rfl)) (pe_ix ix_tup (pv 1) pe_int (fun _ _ => rfl)))) (pe_op op_mul (pe_ix ix_tup (pv 2) pe_int (fun _ _ => rfl)) (pe_op op_sub (pe_ix ix_tup (pv 1) pe_int (fun _ _ => rfl)) (pe_ix ix_tup (pv 0) pe_int (fun _ _ => rfl))))))
      (pss_cons (ps_set (i := 5) sc_w_bars.nd rfl (by walk_at "O") (pe_op op_add (pe_op op_mul (pe_ix ix_tup (pv 0) pe_int (fun _ _ => rfl)) (pe_op op_sub (pe_ix ix_tup (pv 2) pe_int (fun _ _ => rfl)) (pe_ix ix_tup (pv 1) pe_int (fun _ _ => rfl)))) (pe_op op_mul (pe_ix ix_tup (pv 2) pe_int (fun _ _ => rfl)) (pe_op op_sub (pe_ix ix_tup (pv 1) pe_int (fun _ _ => rfl)) (pe_ix ix_tup (pv 0) pe_int (fun _ _ => rfl))))))
      (pss_one (ps_ret (pe_or (pe_cmpR op_gt (pe_op op_mul (pe_ix ix_tup (pv 1) pe_int (fun _ _ => rfl)) (pv 3)) (pv 4) (nomark _)) (pe_one (pe_cmpR op_lt (pe_op op_mul (pe_ix ix_tup (pv 1) pe_int (fun _ _ => rfl)) (pv 3)) (pv 5) (nomark _))))))))), ?_⟩
    obtain ⟨p1, p2, p3, p4, p5⟩ := id o1
    obtain ⟨q1, q2, q3, q4, q5⟩ := id o2
    obtain ⟨r1, r2, r3, r4, r5⟩ := id o3
    walk_at "Q"
    walk_at "RD"
    walk_at "AUTO"
    walk_at "NX"
    walk_at "Q"
    walk_at "RD"
    walk_at "AUTO"
    walk_at "NX"
    walk_at "Q"
    walk_at "RD"
    walk_at "AUTO"
    walk_at "NX"
    walk_at "RD"
    walk_at "AUTO"
    by_cases hf : FootBar a b c
    · have hf2 := hf
      unfold FootBar at hf2
      rw [if_pos (decide_eq_true hf2)]
      rw [decide_eq_true (show Bars a b c from .inl hf)] at k
      exact k
    · have hf2 := hf
      unfold FootBar at hf2
      rw [if_neg (fun z => hf2 (of_decide_eq_true z))]
      walk_at "AUTO"
      have e : decide (Bars a b c) = decide (HeadBar a b c) := by
        unfold Bars
        simp only [hf, false_or]
      rw [e] at k
      exact k
theorem sc_w_first : FnScope ["_law_row", "_law_i", "_law_j", "_law_k"] ["_law_row"] (defScope s_w_first) := by walk_at "SC"
def sp_w_first (K : PySem.W.Frag) : Sp := fun vs H Q _ => ∃ (l : Addr) (as : List Addr) (gs : List G), vs = [.ref l] ∧ SqL K H l (as.map V.ref) ∧ GsAt H as gs ∧ (gs.map G.p).Nodup ∧ gs.length < 64 ∧ (∀ g ∈ gs, OkG g) ∧ ∀ D H' t, Same H H' → H' D = some (.tup (t.map V.int)) → FirstT gs t → Q (.ref D) H'
def Wf1 (D : Addr) (sg : List G) (H : Hp) : Nat → St → Hp → Prop := fun i σ H' => ∃ x y z, σ = [some (.ref D), x, y, z] ∧ H' = H ∧ NoneAhead sg i 0 0
def Wf2 (D : Addr) (sg : List G) (H : Hp) (i : Nat) : Nat → St → Hp → Prop := fun t σ H' => ∃ y z, σ = [some (.ref D), some (.int (0 + (i : Int))), y, z] ∧ H' = H ∧ NoneAhead sg i (i + 1 + t) 0
def Wf3 (D : Addr) (sg : List G) (H : Hp) (i j : Nat) : Nat → St → Hp → Prop := fun t σ H' => ∃ z, σ = [some (.ref D), some (.int (0 + (i : Int))), some (.int (0 + (i : Int) + 1 + (j : Int))), z] ∧ H' = H ∧ NoneAhead sg i (i + 1 + j) (i + 1 + j + 1 + t)
theorem ok_w_first (T : Tx K mg) : FnOk P w K mg base CX0 2 T.f_w_first T.fd_w_first ["_law_row"] (sp_w_first K) := by
  refine T.d_w_first.F.ok sc_w_first (fun vs H Q E h => ?_) (fun cdv A outer s H vs Q E hr h => ?_)
  · obtain ⟨l, as0, gs0, rfl, hl0, ga0, nd, h64, ok0, kk⟩ := h
    rfl
  · obtain ⟨l, as0, gs0, rfl, hl0, ga0, nd, h64, ok0, kk⟩ := h
    have hu := hu_of hr
    refine ⟨_, (pss_cons (ps_set (i := 0) sc_w_first.nd rfl (by walk_at "O") (pe_callB call_sortedG (by rfl) T.z_sorted bo_sorted (pa_cons (pv 0) pa_nil)))
      (pss_cons (ps_for PassesOwn.never rfl (pi_range1 (by rfl) T.z_range (pa_cons (pe_callB call_len_seq (by rfl) T.z_len bo_len (pa_cons (pv 0) pa_nil)) pa_nil)) (pg_name (i := 1) sc_w_first.nd rfl (by walk_at "O"))
        (pss_one (ps_for PassesOwn.never rfl (pi_range2 (by rfl) T.z_range (pa_cons (pe_op op_add (pv 1) pe_int) (pa_cons (pe_callB call_len_seq (by rfl) T.z_len bo_len (pa_cons (pv 0) pa_nil)) pa_nil))) (pg_name (i := 2) sc_w_first.nd rfl (by walk_at "O"))
            (pss_one (ps_for PassesOwn.never rfl (pi_range2 (by rfl) T.z_range (pa_cons (pe_op op_add (pv 2) pe_int) (pa_cons (pe_callB call_len_seq (by rfl) T.z_len bo_len (pa_cons (pv 0) pa_nil)) pa_nil))) (pg_name (i := 3) sc_w_first.nd rfl (by walk_at "O"))
                (pss_one (ps_if (pt_val (pe_call (ok_w_bars T) (hr.mono (by decide)) (by rfl) T.d_w_bars.m T.d_w_bars.F.kp T.d_w_bars.b .nil pass0 (pa_cons (pe_ix ix_list (pv 0) (pv 1) (fun _ _ => rfl)) (pa_cons (pe_ix ix_list (pv 0) (pv 2) (fun _ _ => rfl)) (pa_cons (pe_ix ix_list (pv 0) (pv 3) (fun _ _ => rfl)) pa_nil))))) (pss_one (ps_ret (pe_tupS (pa_cons (pe_ix ix_tup (pe_ix ix_list (pv 0) (pv 1) (fun _ _ => rfl)) pe_int (fun _ _ => rfl)) (pa_cons (pe_ix ix_tup (pe_ix ix_list (pv 0) (pv 2) (fun _ _ => rfl)) pe_int (fun _ _ => rfl)) (pa_cons (pe_ix ix_tup (pe_ix ix_list (pv 0) (pv 3) (fun _ _ => rfl)) pe_int (fun _ _ => rfl)) pa_nil))))))
                    pss_nil)))))))
      (pss_one (ps_ret (pe_tupS pa_nil))))), ?_⟩
    walk_at "RD"
    walk_at "AUTO"
    intro D H1 as gs nD s1 e1 ga hp ha
    have ok : ∀ g ∈ gs, OkG g := fun g hg => ok0 g (hp.mem_iff.mp hg)
    have la := ga.len
    have lg := hp.length_eq
    have hlm : (as.map V.ref).length = gs.length := by rw [List.length_map, la]
    have sl := SqL.of (K := K) e1
    refine ⟨_, rfl, _, rfl, _, Or.inl sl, _, rfl, by rw [hlm]; omega, by rw [hlm]; omega, for_range (Wf1 D gs H1) ⟨none, none, none, rfl, rfl, na_start gs⟩ ?_ ?_⟩
    · rintro i σ H2 hi ⟨x, y, z, rfl, rfl, n1⟩
      rw [hlm] at hi
      have hi' : i < gs.length := by omega
      refine ⟨_, rfl, _, _, rfl, rfl, _, rfl, _, rfl, _, Or.inl sl, _, _, rfl, ⟨by omega, by omega, by rw [hlm]; omega, by rw [hlm]; omega⟩, for_range (Wf2 D gs H2 i) ⟨_, _, rfl, rfl, na_mid n1⟩ ?_ ?_⟩
      · rintro j σ H3 hj ⟨y, z, rfl, rfl, n2⟩
        rw [hlm] at hj
        have hj' : i + 1 + j < gs.length := by omega
        refine ⟨_, rfl, _, _, rfl, rfl, _, rfl, _, rfl, _, Or.inl sl, _, _, rfl, ⟨by omega, by omega, by rw [hlm]; omega, by rw [hlm]; omega⟩, for_range (Wf3 D gs H3 i j) ⟨_, rfl, rfl, na_in n2⟩ ?_ ?_⟩
        · rintro u σ H4 hu' ⟨z, rfl, rfl, n3⟩
          rw [hlm] at hu'
          have hk' : i + 1 + j + 1 + u < gs.length := by omega
          obtain ⟨a1, ha1, t1⟩ := ga.get (List.getElem?_eq_getElem hi')
          obtain ⟨a2, ha2, t2⟩ := ga.get (List.getElem?_eq_getElem hj')
          obtain ⟨a3, ha3, t3⟩ := ga.get (List.getElem?_eq_getElem hk')
          have i1 : atI (as.map V.ref) (0 + (i : Int)) = some (V.ref a1) := by rw [Int.zero_add]; exact atI_refs ha1
          have i2 : atI (as.map V.ref) (0 + (i : Int) + 1 + (j : Int)) = some (V.ref a2) := by rw [show 0 + (i : Int) + 1 + (j : Int) = ((i + 1 + j : Nat) : Int) by omega]; exact atI_refs ha2
          have i3 : atI (as.map V.ref) (0 + (i : Int) + 1 + (j : Int) + 1 + (u : Int)) = some (V.ref a3) := by rw [show 0 + (i : Int) + 1 + (j : Int) + 1 + (u : Int) = ((i + 1 + j + 1 + u : Nat) : Int) by omega]; exact atI_refs ha3
          have o1 := ok _ (List.getElem_mem hi')
          have o2 := ok _ (List.getElem_mem hj')
          have o3 := ok _ (List.getElem_mem hk')
          delta sp_w_bars
          walk_at "AUTO"
          by_cases hb : Bars gs[i] gs[i + 1 + j] gs[i + 1 + j + 1 + u]
          · rw [if_pos (decide_eq_true hb)]
            walk_at "AUTO"
            exact kk p H' [gs[i].p, gs[i + 1 + j].p, gs[i + 1 + j + 1 + u].p] (s1.trans hs) he (.yes gs hp ha i (i + 1 + j) (i + 1 + j + 1 + u) _ _ _ ⟨⟨by omega, by omega, _, _, _, List.getElem?_eq_getElem hi', List.getElem?_eq_getElem hj', List.getElem?_eq_getElem hk', hb⟩, n3⟩ (List.getElem?_eq_getElem hi') (List.getElem?_eq_getElem hj') (List.getElem?_eq_getElem hk') rfl)
          · rw [if_neg (fun z => hb (of_decide_eq_true z))]
            refine ⟨_, rfl, rfl, na_step n3 fun ⟨_, _, a, b, c, f1, f2, f3, f4⟩ => hb ?_⟩
            rw [List.getElem?_eq_getElem hi'] at f1
            rw [List.getElem?_eq_getElem hj'] at f2
            have f3 : gs[i + 1 + j + 1 + u]? = some c := f3
            rw [List.getElem?_eq_getElem hk'] at f3
            cases f1
            cases f2
            cases f3
            exact f4
        · rintro σ H4 ⟨z, rfl, rfl, n3⟩
          exact ⟨_, _, rfl, rfl, na_in_end (by rw [hlm] at *; omega) n3⟩
      · rintro σ H3 ⟨y, z, rfl, rfl, n2⟩
        exact ⟨_, _, _, rfl, rfl, na_mid_end (by rw [hlm] at *; omega) n2⟩
    · rintro σ H2 ⟨x, y, z, rfl, rfl, n1⟩
      walk_at "RD"
      refine ⟨by decide, fun p H3 hn hs he => kk p H3 [] (s1.trans hs) he (.no gs hp ha (na_no ?_) rfl)⟩
      rw [hlm] at n1
      exact n1
theorem sc_w_three : FnScope ["_law_found", "_law_row", "_law_due"] ["_law_found", "_law_row"] (defScope s_w_three) := by walk_at "SC"
def sp_w_three (K : PySem.W.Frag) : Sp := fun vs H Q _ => ∃ (q l : Addr) (t : List Int) (as : List Addr) (gs : List G), vs = [.ref q, .ref l] ∧ H q = some (.tup (t.map V.int)) ∧ SqL K H l (as.map V.ref) ∧ GsAt H as gs ∧ (gs.map G.p).Nodup ∧ gs.length < 64 ∧ (∀ g ∈ gs, OkG g) ∧ t ≠ [] ∧ FirstT gs t ∧ ∀ H', Same H H' → Q (.bl true) H'
theorem ok_w_three (T : Tx K mg) : FnOk P w K mg base CX0 3 T.f_w_three T.fd_w_three ["_law_found", "_law_row"] (sp_w_three K) := by
  refine T.d_w_three.F.ok sc_w_three (fun vs H Q E h => ?_) (fun cdv A outer s H vs Q E hr h => ?_)
  · obtain ⟨q, l, t, as, gs, rfl, hq, hl, ga, nd, h64, ok, ne, hf, k⟩ := h
    rfl
  · obtain ⟨q, l, t, as, gs, rfl, hq, hl, ga, nd, h64, ok, ne, hf, k⟩ := h
    have hu := hu_of hr
    refine ⟨_, (pss_cons (ps_set (i := 2) sc_w_three.nd rfl (by walk_at "O") (pe_call (ok_w_first T) (hr.mono (by decide)) (by rfl) T.d_w_first.m T.d_w_first.F.kp T.d_w_first.b .nil pass0 (pa_cons (pv 1) pa_nil)))
      (pss_one (ps_ret (pe_and (pe_cmpR op_eq (pe_callB call_len_seq (by rfl) T.z_len bo_len (pa_cons (pv 2) pa_nil)) pe_int (nomark _)) (pe_one (pe_call (ok_w_numbers T) (hr.mono (by decide)) (by rfl) T.d_w_numbers.m T.d_w_numbers.F.kp T.d_w_numbers.b .nil pass0 (pa_cons (pv 0) (pa_cons (pv 2) pa_nil)))))))), ?_⟩
    have l3 := hf.len3 ne
    walk_at "RD"
    unfold sp_w_first sp_w_numbers
    refine ⟨l, as, gs, rfl, hl, ga, nd, h64, ok, fun D H1 t' s1 e1 hf' => ?_⟩
    have et := hf'.uniq hf
    subst et
    refine ⟨_, rfl, _, Or.inr (SqT.of e1), ?_⟩
    simp only [List.length_map, l3]
    walk_at "AUTO"
    exact ⟨_, _, t', rfl, s1.get hq, SqT.of e1, by omega, k _ s1⟩
theorem sc_w_barred : FnScope ["_law_found", "_law_row"] ["_law_found", "_law_row"] (defScope s_w_barred) := by walk_at "SC"
def sp_w_barred (K : PySem.W.Frag) : Sp := fun vs H Q _ => ∃ (D l : Addr) (as : List Addr) (gs : List G), vs = [.ref D, .ref l] ∧ BarAt H D gs ∧ SqL K H l (as.map V.ref) ∧ GsAt H as gs ∧ (gs.map G.p).Nodup ∧ gs.length < 64 ∧ (∀ g ∈ gs, OkG g) ∧ ∀ H', Same H H' → Q (.bl true) H'
theorem ok_w_barred (T : Tx K mg) : FnOk P w K mg base CX0 4 T.f_w_barred T.fd_w_barred ["_law_found", "_law_row"] (sp_w_barred K) := by
  refine T.d_w_barred.F.ok sc_w_barred (fun vs H Q E h => ?_) (fun cdv A outer s H vs Q E hr h => ?_)
  · obtain ⟨D, l, as, gs, rfl, ⟨q, t, e, e2, ne, hf⟩, hl, ga, nd, h64, ok, k⟩ := h
    rfl
  · obtain ⟨D, l, as, gs, rfl, ⟨q, t, e, e2, ne, hf⟩, hl, ga, nd, h64, ok, k⟩ := h
    have hu := hu_of hr
    refine ⟨_, (pss_cons (ps_if (pw_or (pt_not (pt_val (pe_callB call_isinst (by rfl) T.z_isinstance bo_isinstance (pa_cons (pv 0) (pa_cons (pe_bltn (v := .ty "tuple") (by rfl) T.z_tuple bo_tuple rfl) pa_nil))))) (pw_or (pt_cmpR op_ne (pe_callB call_len_seq (by rfl) T.z_len bo_len (pa_cons (pv 0) pa_nil)) pe_int (nomark _)) (pw_or1 (pt_not (pt_val (pe_callB call_isinst (by rfl) T.z_isinstance bo_isinstance (pa_cons (pe_ix ix_tup (pv 0) pe_int (fun _ _ => rfl)) (pa_cons (pe_bltn (v := .ty "str") (by rfl) T.z_str bo_str rfl) pa_nil)))))))).pt (pss_one (ps_ret pe_bl))
        pss_nil)
      (pss_one (ps_ret (pe_and (pe_cmpR op_eq (pe_ix ix_tup (pv 0) pe_int (fun _ _ => rfl)) pe_str (nomark _)) (pe_one (pe_call (ok_w_three T) (hr.mono (by decide)) (by rfl) T.d_w_three.m T.d_w_three.F.kp T.d_w_three.b .nil pass0 (pa_cons (pe_ix ix_tup (pv 0) pe_int (fun _ _ => rfl)) (pa_cons (pv 1) pa_nil)))))))), ?_⟩
    walk_at "RD"
    walk_at "AUTO"
    unfold sp_w_three
    exact ⟨_, _, t, as, gs, rfl, e2, hl, ga, nd, h64, ok, ne, hf, k⟩
theorem sc_w_edge : FnScope ["_law_found", "_law_row", "_law_ends", "_law_touched", "_law_gate"] ["_law_found", "_law_row", "_law_ends"] (defScope s_w_edge) := by walk_at "SC"
def sp_w_edge (K : PySem.W.Frag) : Sp := fun vs H Q _ => ∃ (D l n : Addr) (as : List Addr) (gs : List G) (up : Bool), vs = [.ref D, .ref l, .ref n] ∧ EdgeAt up H D gs ∧ SqL K H l (as.map V.ref) ∧ H n = some (.lst [.int (if up then 1 else 2), .int (if up then 2 else 1)]) ∧ GsAt H as gs ∧ (gs.map G.p).Nodup ∧ gs.length < 64 ∧ (∀ g ∈ gs, OkG g) ∧ ∀ H', Same H H' → Q (.bl true) H'
def W_edge (D l n : Addr) (x y : G) (gs : List G) (H : Hp) : Nat → St → Hp → Prop := fun i σ H' => ∃ z, σ = [some (.ref D), some (.ref l), some (.ref n), some (.int (occ x (gs.take i) + occ y (gs.take i))), z] ∧ H' = H
def C_edge (D l n z : Addr) (v : Int) (H : Hp) : St → Hp → Prop := fun σ H' => σ = [some (.ref D), some (.ref l), some (.ref n), some (.int v), some (.ref z)] ∧ H' = H
theorem ok_w_edge (T : Tx K mg) : FnOk P w K mg base CX0 5 T.f_w_edge T.fd_w_edge ["_law_found", "_law_row", "_law_ends"] (sp_w_edge K) := by
  refine T.d_w_edge.F.ok sc_w_edge (fun vs H Q E h => ?_) (fun cdv A outer s H vs Q E hr h => ?_)
  · obtain ⟨D, l, n, as, gs, up, rfl, eg, hl, hn, ga, nd, h64, ok, k⟩ := h
    rfl
  · obtain ⟨D, l, n, as, gs, up, rfl, eg, hl, hn, ga, nd, h64, ok, k⟩ := h
    have hu := hu_of hr
    refine ⟨_, (pss_cons (ps_if (pw_or (pt_not (pt_val (pe_callB call_isinst (by rfl) T.z_isinstance bo_isinstance (pa_cons (pv 0) (pa_cons (pe_bltn (v := .ty "tuple") (by rfl) T.z_tuple bo_tuple rfl) pa_nil))))) (pw_or1 (pt_cmpR op_ne (pe_callB call_len_seq (by rfl) T.z_len bo_len (pa_cons (pv 0) pa_nil)) pe_int (nomark _)))).pt (pss_one (ps_ret (pe_call (ok_w_barred T) (hr.mono (by decide)) (by rfl) T.d_w_barred.m T.d_w_barred.F.kp T.d_w_barred.b .nil pass0 (pa_cons (pv 0) (pa_cons (pv 1) pa_nil)))))
        pss_nil)
      (pss_cons (ps_if (pw_or (pt_not (pt_val (pe_callB call_isinst (by rfl) T.z_isinstance bo_isinstance (pa_cons (pe_ix ix_tup (pv 0) pe_int (fun _ _ => rfl)) (pa_cons (pe_bltn (v := .ty "str") (by rfl) T.z_str bo_str rfl) pa_nil))))) (pw_or1 (pt_cmpR op_ne (pe_ix ix_tup (pv 0) pe_int (fun _ _ => rfl)) pe_str (nomark _)))).pt (pss_one (ps_ret pe_bl))
        pss_nil)
      (pss_cons (ps_if (pw_or (pt_not (pt_val (pe_call (ok_w_throw T) (hr.mono (by decide)) (by rfl) T.d_w_throw.m T.d_w_throw.F.kp T.d_w_throw.b .nil pass0 (pa_cons (pe_ix ix_tup (pv 0) pe_int (fun _ _ => rfl)) pa_nil)))) (pw_or1 (pt_not (pt_val (pe_call (ok_w_all T) (hr.mono (by decide)) (by rfl) T.d_w_all.m T.d_w_all.F.kp T.d_w_all.b .nil pass0 (pa_cons (pe_ix ix_tup (pv 0) pe_int (fun _ _ => rfl)) (pa_cons (pv 1) pa_nil))))))).pt (pss_one (ps_ret pe_bl))
        pss_nil)
      (pss_cons (ps_if (pw_or (pt_not (pt_val (pe_call (ok_w_whole T) (hr.mono (by decide)) (by rfl) T.d_w_whole.m T.d_w_whole.F.kp T.d_w_whole.b .nil pass0 (pa_cons (pe_ix ix_tup (pv 0) pe_int (fun _ _ => rfl)) pa_nil)))) (pw_or (pt_not (pt_val (pe_call (ok_w_whole T) (hr.mono (by decide)) (by rfl) T.d_w_whole.m T.d_w_whole.F.kp T.d_w_whole.b .nil pass0 (pa_cons (pe_ix ix_tup (pv 0) pe_int (fun _ _ => rfl)) pa_nil)))) (pw_or1 (pt_cmpR op_ge (pe_ix ix_tup (pv 0) pe_int (fun _ _ => rfl)) (pe_ix ix_tup (pv 0) pe_int (fun _ _ => rfl)) (nomark _))))).pt (pss_one (ps_ret pe_bl))
        pss_nil)
      (pss_cons (ps_set (i := 3) sc_w_edge.nd rfl (by walk_at "O") pe_int)
      (pss_cons (ps_for PassesOwn.never rfl (pi_list (pv 1)) (pg_name (i := 4) sc_w_edge.nd rfl (by walk_at "O"))
        (pss_cut (ps_if (pw_and (pt_cmpR op_eq (pe_ix ix_tup (pv 4) pe_int (fun _ _ => rfl)) (pe_ix ix_tup (pv 0) pe_int (fun _ _ => rfl)) (nomark _)) (pw_and1 (pt_cmpR op_eq (pe_call (ok_w_gap T) (hr.mono (by decide)) (by rfl) T.d_w_gap.m T.d_w_gap.F.kp T.d_w_gap.b .nil pass0 (pa_cons (pe_ix ix_tup (pv 0) pe_int (fun _ _ => rfl)) (pa_cons (pe_ix ix_tup (pv 4) pe_int (fun _ _ => rfl)) (pa_cons (pe_ix ix_tup (pv 4) (pe_ix ix_list (pv 2) pe_int (fun _ _ => rfl)) (fun _ _ => rfl)) pa_nil)))) pe_int (nomark _)))).pt (pss_one (ps_set (i := 3) sc_w_edge.nd rfl (by walk_at "O") (pe_op op_add (pv 3) pe_int)))
            pss_nil)
          (pss_one (ps_if (pw_and (pt_cmpR op_eq (pe_ix ix_tup (pv 4) pe_int (fun _ _ => rfl)) (pe_ix ix_tup (pv 0) pe_int (fun _ _ => rfl)) (nomark _)) (pw_and1 (pt_cmpR op_eq (pe_call (ok_w_gap T) (hr.mono (by decide)) (by rfl) T.d_w_gap.m T.d_w_gap.F.kp T.d_w_gap.b .nil pass0 (pa_cons (pe_ix ix_tup (pv 0) pe_int (fun _ _ => rfl)) (pa_cons (pe_ix ix_tup (pv 4) pe_int (fun _ _ => rfl)) (pa_cons (pe_ix ix_tup (pv 4) (pe_ix ix_list (pv 2) pe_int (fun _ _ => rfl)) (fun _ _ => rfl)) pa_nil)))) pe_int (nomark _)))).pt (pss_one (ps_set (i := 3) sc_w_edge.nd rfl (by walk_at "O") (pe_op op_add (pv 3) pe_int)))
            pss_nil))))
      (pss_one (ps_ret (pe_cmpR op_eq (pv 3) pe_int (nomark _)))))))))), ?_⟩
    have la := ga.len
    rcases eg with ⟨q, t, x, y, e, e2, ot, all, hx, hy, lt, tx, ty⟩ | b
    · have hA : ∀ g : G, atI [V.int g.p, V.int g.f, V.int g.h] (if up = true then 1 else 2) = some (.int (endA up g)) := fun g => by cases up <;> rfl
      have hB : ∀ g : G, atI [V.int g.p, V.int g.f, V.int g.h] (if up = true then 2 else 1) = some (.int (endB up g)) := fun g => by cases up <;> rfl
      have hE : ∀ g : G, (endA up g = g.f ∨ endA up g = g.h) ∧ (endB up g = g.f ∨ endB up g = g.h) := fun g => by cases up <;> exact ⟨by first | exact .inl rfl | exact .inr rfl, by first | exact .inl rfl | exact .inr rfl⟩
      generalize (if up = true then (1 : Int) else 2) = iA at hn hA
      generalize (if up = true then (2 : Int) else 1) = iB at hn hB
      walk_at "Q"
      walk_at "RD"
      walk_at "AUTO"
      walk_at "NX"
      walk_at "Q"
      walk_at "RD"
      walk_at "AUTO"
      walk_at "NX"
      walk_at "Q"
      walk_at "RD"
      walk_at "AUTO"
      unfold sp_w_throw sp_w_all
      refine ⟨_, t.a, t.b, t.c, t.d, rfl, e2, ot.a1, ot.b1, ot.c1, ot.d1, ot.b0, ot.d0, ot.g1, ot.g2, fun H2 s2 => ?_⟩
      have hl2 := s2.seq hl
      have hn2 := s2.get hn
      have ga2 := ga.same s2
      have eD := s2.get e
      have eq2 := s2.get e2
      walk_at "AUTO"
      refine ⟨_, _, t, as, gs, rfl, SqT.of eq2, hl2, ga2, ot, ok, ?_⟩
      rw [decide_eq_true all]
      walk_at "AUTO"
      walk_at "NX"
      walk_at "Q"
      delta sp_w_whole
      walk_at "AUTO"
      walk_at "NX"
      walk_at "RD"
      refine ⟨_, rfl, _, rfl, ⟨_, hl2⟩, for_list (xs := as.map V.ref) (W_edge D l n x y gs H2) ⟨none, rfl, rfl⟩ (fun _ _ _ _ ⟨_, _, e⟩ => e ▸ hl2) ?_ ?_⟩
      · rintro i v σ H3 hv ⟨z, rfl, rfl⟩
        have hi : i < gs.length := by
          have := (List.getElem?_eq_some_iff.mp hv).1
          rw [List.length_map] at this
          omega
        obtain ⟨a1, ha1, t1⟩ := ga2.get (List.getElem?_eq_getElem hi)
        have ex : v = V.ref a1 := by
          rw [List.getElem?_map, ha1] at hv
          exact (Option.some.inj hv).symm
        subst ex
        have hg := List.getElem_mem hi
        have o1 : occ x (gs.take (i + 1)) = occ x (gs.take i) + if gs[i].p = x.p then 1 else 0 := by
          rw [List.take_succ_eq_append_getElem hi, occ_append]
          simp [occ]
        have o2 : occ y (gs.take (i + 1)) = occ y (gs.take i) + if gs[i].p = y.p then 1 else 0 := by
          rw [List.take_succ_eq_append_getElem hi, occ_append]
          simp [occ]
        generalize hgi : gs[i] = gi at hg t1 o1 o2
        obtain ⟨p1, p2, p3, p4, p5⟩ := ok _ hg
        refine ⟨C_edge D l n a1 (occ x (gs.take i) + occ y (gs.take i) + (if gi.p = x.p then 1 else 0)) H3, ?_, ?_⟩
        · walk_at "RD"
          walk_at "AUTO"
          by_cases hp : gi.p = x.p
          · have hgx : gi = x := uniq_p nd hg hx hp
            rw [if_pos (decide_eq_true (congrArg V.int hp))]
            unfold sp_w_gap
            refine ⟨_, SqT.of eD, _, rfl, _, SqT.of t1, _, rfl, _, SqL.of hn2, _, rfl, _, _, rfl, SqT.of t1, _, hA gi, _, _, _, t.a, t.b, t.c, t.d, rfl, SqT.of eq2, mdOf ot.a1 (by decide +kernel), mdOf ot.b1 (by decide +kernel), mdOf ot.c1 (by decide +kernel), mdOf ot.d1 (by decide +kernel), mdOf (n := 1000) (by omega) (by decide +kernel), mdOf (n := 1000) (by have := hE gi; omega) (by decide +kernel), rfl, ?_⟩
            rw [if_pos (decide_eq_true (congrArg V.int (by rw [hgx]; exact tx)))]
            exact ⟨by rw [if_pos hp], rfl⟩
          · rw [if_neg (fun z => hp (V.int.inj (of_decide_eq_true z)))]
            exact ⟨by rw [if_neg hp, Int.add_zero], rfl⟩
        · rintro σ H4 ⟨rfl, rfl⟩
          walk_at "RD"
          walk_at "AUTO"
          by_cases hp : gi.p = y.p
          · have hgx : gi = y := uniq_p nd hg hy hp
            rw [if_pos (decide_eq_true (congrArg V.int hp))]
            unfold sp_w_gap
            refine ⟨_, SqT.of eD, _, rfl, _, SqT.of t1, _, rfl, _, SqL.of hn2, _, rfl, _, _, rfl, SqT.of t1, _, hB gi, _, _, _, t.a, t.b, t.c, t.d, rfl, SqT.of eq2, mdOf ot.a1 (by decide +kernel), mdOf ot.b1 (by decide +kernel), mdOf ot.c1 (by decide +kernel), mdOf ot.d1 (by decide +kernel), mdOf (n := 1000) (by omega) (by decide +kernel), mdOf (n := 1000) (by have := hE gi; omega) (by decide +kernel), rfl, ?_⟩
            rw [if_pos (decide_eq_true (congrArg V.int (by rw [hgx]; exact ty)))]
            exact ⟨_, by rw [o1, o2, if_pos hp, show ∀ a b c : Int, a + b + c + 1 = a + c + (b + 1) by omega], rfl⟩
          · rw [if_neg (fun z => hp (V.int.inj (of_decide_eq_true z)))]
            exact ⟨_, by rw [o1, o2, if_neg hp, show ∀ a b c : Int, a + b + c = a + c + (b + 0) by omega], rfl⟩
      · rintro σ H3 ⟨z, rfl, rfl⟩
        rw [List.length_map, la, List.take_length]
        walk_at "RD"
        rw [occ_one hx nd, occ_one hy nd]
        exact k _ s2
    · obtain ⟨q, t, e, e2, ne, hf⟩ := id b
      walk_at "Q"
      walk_at "RD"
      walk_at "AUTO"
      unfold sp_w_barred
      exact ⟨_, _, as, gs, rfl, b, hl, ga, nd, h64, ok, k⟩
theorem sc_w_both : FnScope ["_law_beach", "_law_stands", "_law_places", "_law_row", "_law_high", "_law_low"] ["_law_beach", "_law_stands", "_law_places"] (defScope s_w_both) := by walk_at "SC"
def sp_w_both {K : PySem.W.Frag} {mg : Str → Option Value} (T : Tx K mg) : Sp := fun vs H Q _ => ∃ (b S P d l : Addr) (ow : List Addr) (gs : List G) (past : List (List G)) (ps : List Int), vs = [.ref b, .ref d, .ref l] ∧ Bch T.C_Beach H b S P ow gs past ∧ DkAt H d gs ∧ SqL K H l (ps.map V.int) ∧ 2 ≤ ps.length ∧ ps.length ≤ 40 ∧ ps.Nodup ∧ (∀ p ∈ ps, p ∈ places gs) ∧ ∀ H', Same H H' → Q (.bl true) H'
theorem ok_w_both (T : Tx K mg) : FnOk P w K mg base CX0 9 T.f_w_both T.fd_w_both ["_law_beach", "_law_stands", "_law_places"] (sp_w_both T) := by
  refine T.d_w_both.F.ok sc_w_both (fun vs H Q E h => ?_) (fun cdv A outer s H vs Q E hr h => ?_)
  · obtain ⟨b, S, P, d, l, ow, gs, past, ps, rfl, hb, hd, hl, l2, l40, nd, sub, k⟩ := h
    rfl
  · obtain ⟨b, S, P, d, l, ow, gs, past, ps, rfl, hb, hd, hl, l2, l40, nd, sub, k⟩ := h
    have hu := hu_of hr
    refine ⟨_, (pss_cons (ps_set (i := 3) sc_w_both.nd rfl (by walk_at "O") (pe_call (ok_w_gates_at T) (hr.mono (by decide)) (by rfl) T.d_w_gates_at.m T.d_w_gates_at.F.kp T.d_w_gates_at.b .nil pass0 (pa_cons (pv 1) (pa_cons (pv 2) pa_nil))))
      (pss_cons (ps_set (i := 4) sc_w_both.nd rfl (by walk_at "O") (pe_meth (pv 0) T.cl_Beach T.d_Beach_steepest.mt (ok_Beach_steepest T) (hr.mono (by decide)) T.d_Beach_steepest.b .nil passX0 (pa_cons (pe_callTy call_listS (by rfl) T.z_list bo_list (pa_cons (pv 2) pa_nil)) pa_nil)))
      (pss_cut (ps_set (i := 5) sc_w_both.nd rfl (by walk_at "O") (pe_meth (pv 0) T.cl_Beach T.d_Beach_flattest.mt (ok_Beach_flattest T) (hr.mono (by decide)) T.d_Beach_flattest.b .nil passX0 (pa_cons (pe_callTy call_listS (by rfl) T.z_list bo_list (pa_cons (pv 2) pa_nil)) pa_nil)))
      (pss_cut (ps_if (pw_or (pt_not (pt_val (pe_call (ok_w_edge T) (hr.mono (by decide)) (by rfl) T.d_w_edge.m T.d_w_edge.F.kp T.d_w_edge.b .nil pass0 (pa_cons (pv 4) (pa_cons (pv 3) (pa_cons (pe_lstS (pa_cons pe_int (pa_cons pe_int pa_nil))) pa_nil)))))) (pw_or (pt_not (pt_val (pe_call (ok_w_edge T) (hr.mono (by decide)) (by rfl) T.d_w_edge.m T.d_w_edge.F.kp T.d_w_edge.b .nil pass0 (pa_cons (pv 5) (pa_cons (pv 3) (pa_cons (pe_lstS (pa_cons pe_int (pa_cons pe_int pa_nil))) pa_nil)))))) (pw_or1 (pt_cmpR op_ne (pe_callB call_len_seq (by rfl) T.z_len bo_len (pa_cons (pv 4) pa_nil)) (pe_callB call_len_seq (by rfl) T.z_len bo_len (pa_cons (pv 5) pa_nil)) (nomark _))))).pt (pss_one (ps_ret pe_bl))
        pss_nil)
      (pss_cons (ps_if (pt_cmpR op_eq (pe_ix ix_tup (pv 4) pe_int (fun _ _ => rfl)) pe_str (nomark _)) (pss_one (ps_ret pe_bl))
        pss_nil)
      (pss_one (ps_ret (pe_cmpR op_le (pe_op op_mul (pe_ix ix_tup (pe_ix ix_tup (pv 5) pe_int (fun _ _ => rfl)) pe_int (fun _ _ => rfl)) (pe_ix ix_tup (pe_ix ix_tup (pv 4) pe_int (fun _ _ => rfl)) pe_int (fun _ _ => rfl))) (pe_op op_mul (pe_ix ix_tup (pe_ix ix_tup (pv 4) pe_int (fun _ _ => rfl)) pe_int (fun _ _ => rfl)) (pe_ix ix_tup (pe_ix ix_tup (pv 5) pe_int (fun _ _ => rfl)) pe_int (fun _ _ => rfl))) (nomark _))))))))), ?_⟩
    have nbad : ¬ badL ps := fun z => by
      rcases z with z | z | z
      · rw [z] at l2; simp at l2
      · omega
      · exact z nd
    have lp := picks_len sub
    have okp : ∀ g ∈ picks gs ps, OkG g := fun g hg => hb.std.ok g (picks_mem hg)
    have ndp : ((picks gs ps).map G.p).Nodup := by show (places _).Nodup; rw [picks_places sub]; exact nd
    walk_at "Q"
    walk_at "RD"
    refine ⟨d, l, gs, ps, rfl, hd, hb.std.asc, hl, by omega, sub, fun GL H1 as n1 s1 e1 ga => ?_⟩
    walk_at "NX"
    walk_at "Q"
    walk_at "RD"
    have hb1 := hb.same s1
    obtain ⟨dx, eb⟩ := hb1.at_
    refine ⟨dx, _, eb, rfl, _, .inl (s1.seq hl), fun l' H2 n2 s2 e2 => ?_⟩
    refine ⟨b, S, P, ow, gs, past, l', ps, rfl, hb1.same s2, SqL.of e2, by omega, fun z => absurd z nbad, fun _ => sub, fun _ z => by omega, fun _ _ D1 H3 s3 th1 => ?_⟩
    walk_at "NX"
    have s13 := s1.trans (s2.trans s3)
    have e13 := s3.get (s2.get e1)
    have ga3 := (ga.same s2).same s3
    clear e2 n2
    refine ⟨fun σ' H' => ∃ D2, σ' = [some (.ref b), some (.ref d), some (.ref l), some (.ref GL), some (.ref D1), some (.ref D2)] ∧ Same H3 H' ∧ EdgeAt false H' D2 (picks gs ps), ?_, ?_⟩
    · have hb3 := hb.same s13
      obtain ⟨dx, eb⟩ := hb3.at_
      walk_at "RD"
      refine ⟨dx, _, eb, rfl, _, .inl (s13.seq hl), fun l' H4 n4 s4 e4 => ?_⟩
      exact ⟨b, S, P, ow, gs, past, l', ps, rfl, hb3.same s4, SqL.of e4, by omega, fun z => absurd z nbad, fun _ => sub, fun _ z => by omega, fun _ _ D2 H5 s5 th2 => ⟨D2, rfl, s4.trans s5, th2⟩⟩
    rintro σ' H4 ⟨D2, rfl, s4, th2⟩
    have th1 := th1.same s4
    have e14 := s4.get e13
    have ga4 := ga3.same s4
    have s14 := s13.trans s4
    have fin : ∀ (n : Nat) (v1 v2 : V) (r1 r2 : List V), H4 D1 = some (.tup (v1 :: r1)) → H4 D2 = some (.tup (v2 :: r2)) → r1.length = r2.length → True := fun _ _ _ _ _ _ _ _ => trivial
    refine ⟨fun σ' H' => σ' = [some (.ref b), some (.ref d), some (.ref l), some (.ref GL), some (.ref D1), some (.ref D2)] ∧ Same H4 H', ?_, ?_⟩
    · walk_at "RD"
      refine ⟨by decide, fun z1 H5 n5 s5 e5 => ?_⟩
      refine ⟨D1, GL, z1, as, picks gs ps, true, rfl, th1.same s5, SqL.of (s5.get e14), e5, ga4.same s5, ndp, by omega, okp, fun H6 s6 => ⟨true, rfl, ?_⟩⟩
      rw [if_neg (by simp)]
      refine ⟨by decide, fun z2 H7 n7 s7 e7 => ?_⟩
      have s47 := s5.trans (s6.trans s7)
      refine ⟨D2, GL, z2, as, picks gs ps, false, rfl, th2.same s47, SqL.of (s47.get e14), e7, ga4.same s47, ndp, by omega, okp, fun H8 s8 => ⟨true, rfl, ?_⟩⟩
      rw [if_neg (by simp)]
      have s48 := s47.trans s8
      rcases th1 with ⟨q, t, x, y, e, e2, ot, all, hx, hy, lt, tx, ty⟩ | ⟨q, t, e, e2, ne, hf⟩ <;> rcases th2 with ⟨q', t', x', y', e', e2', ot', all', hx', hy', lt', tx', ty'⟩ | ⟨q', t', e', e2', ne', hf'⟩
      · refine ⟨_, .inr (SqT.of (s48.get e)), _, .inr (SqT.of (s48.get e')), ?_⟩
        rw [if_neg (by simp)]
        exact s48
      · exact absurd (throw_nobar ot all hf') ne'
      · exact absurd (throw_nobar ot' all' hf) ne
      · refine ⟨_, .inr (SqT.of (s48.get e)), _, .inr (SqT.of (s48.get e')), ?_⟩
        rw [if_neg (by simp)]
        exact s48
    rintro σ' H5 ⟨rfl, s5⟩
    have th1 := th1.same s5
    have th2 := th2.same s5
    walk_at "Q"
    walk_at "RD"
    rcases th1 with ⟨q, t, x, y, e, e2, ot, all, hx, hy, lt, tx, ty⟩ | ⟨q, t, e, e2, ne, hf⟩
    · rcases th2 with ⟨q', t', x', y', e', e2', ot', all', hx', hy', lt', tx', ty'⟩ | ⟨q', t', e', e2', ne', hf'⟩
      · refine ⟨_, SqT.of e, _, rfl, rfl, ?_⟩
        rw [if_neg (by decide)]
        walk_at "NX"
        walk_at "RD"
        have c1 := ot.c1
        have d1 := ot.d1
        have c1' := ot'.c1
        have d1' := ot'.d1
        refine ⟨_, SqT.of e', _, rfl, q', rfl, _, SqT.of e2', _, rfl, _, SqT.of e, _, rfl, q, rfl, _, SqT.of e2, _, rfl, _, rfl, _, rfl, .inl ⟨by omega, by omega⟩, ?_⟩
        refine ⟨_, SqT.of e, _, rfl, q, rfl, _, SqT.of e2, _, rfl, _, SqT.of e', _, rfl, q', rfl, _, SqT.of e2', _, rfl, _, rfl, _, rfl, .inl ⟨by omega, by omega⟩, ?_⟩
        rw [decide_eq_true (steep_over ot ot' lt tx ty (all' x hx) (all' y hy))]
        exact k _ (s14.trans s5)
      · exact absurd (throw_nobar ot all hf') ne'
    · refine ⟨_, SqT.of e, _, rfl, rfl, ?_⟩
      rw [if_pos (by decide)]
      exact k _ (s14.trans s5)
theorem sc_law : FnScope ["_law_script", "_law_beach", "_law_stands", "_law_past", "_law_k", "_law_places", "_law_found"] ["_law_script"] (defScope s_law) := by walk_at "SC"
def sp_law (K : PySem.W.Frag) : Sp := fun vs H Q _ => ∃ (a : Addr) (ns : List Int), vs = [.ref a] ∧ SqL K H a (ns.map V.int) ∧ ns.length ≤ 63 ∧ ∀ H', Q (.bl true) H'
theorem ok_law (T : Tx K mg) : FnOk P w K mg base CX0 10 T.f_law T.fd_law ["_law_script"] (sp_law K) := by
  refine T.d_law.F.ok sc_law (fun vs H Q E h => ?_) (fun cdv A outer s H vs Q E hr h => ?_)
  · obtain ⟨a, ns, rfl, hS, hl, k⟩ := h
    rfl
  · obtain ⟨a, ns, rfl, hS, hl, k⟩ := h
    have hu := hu_of hr
    refine ⟨_, (pss_cons (ps_set (i := 1) sc_law.nd rfl (by walk_at "O") (pe_make0 T.mk_Beach (ok_Beach_init T) (hr.mono (by decide)) (by rfl) T.m_Beach T.d_Beach_init.b .nil pass0))
      (pss_cons (ps_set (i := 2) sc_law.nd rfl (by walk_at "O") pe_dnewS)
      (pss_cons (ps_set (i := 3) sc_law.nd rfl (by walk_at "O") (pe_lstS pa_nil))
      (pss_cons (ps_if (pt_not (pt_val (pe_call (ok_w_laid T) (hr.mono (by decide)) (by rfl) T.d_w_laid.m T.d_w_laid.F.kp T.d_w_laid.b .nil pass0 (pa_cons (pv 1) (pa_cons (pv 2) (pa_cons (pv 3) (pa_cons (pv 0) (pa_cons pe_int pa_nil)))))))) (pss_one (ps_ret pe_bl))
        pss_nil)
      (pss_cons (ps_for PassesOwn.never rfl (pi_range2 (by rfl) T.z_range (pa_cons pe_int (pa_cons (pe_callB call_len_seq (by rfl) T.z_len bo_len (pa_cons (pv 0) pa_nil)) pa_nil))) (pg_name (i := 4) sc_law.nd rfl (by walk_at "O"))
        (pss_cut (ps_if (pt_not (pt_val (pe_call (ok_w_step T) (hr.mono (by decide)) (by rfl) T.d_w_step.m T.d_w_step.F.kp T.d_w_step.b .nil pass0 (pa_cons (pv 1) (pa_cons (pv 2) (pa_cons (pv 3) (pa_cons (pe_call (ok_w_deed T) (hr.mono (by decide)) (by rfl) T.d_w_deed.m T.d_w_deed.F.kp T.d_w_deed.b .nil pass0 (pa_cons (pv 0) (pa_cons (pv 4) (pa_cons (pv 2) (pa_cons (pv 3) pa_nil))))) pa_nil))))))) (pss_one (ps_ret pe_bl))
            pss_nil)
          (pss_one (ps_if (pt_cmpR op_gt (pe_callB call_lenD (by rfl) T.z_len bo_len (pa_cons (pv 2) pa_nil)) pe_int (nomark _)) (pss_cons (ps_set (i := 5) sc_law.nd rfl (by walk_at "O") (pe_call (ok_w_picked T) (hr.mono (by decide)) (by rfl) T.d_w_picked.m T.d_w_picked.F.kp T.d_w_picked.b .nil pass0 (pa_cons (pv 0) (pa_cons (pv 4) (pa_cons (pv 2) (pa_cons pe_int pa_nil))))))
              (pss_one (ps_if (pw_and (pt_cmpR op_gt (pe_callB call_len_seq (by rfl) T.z_len bo_len (pa_cons (pv 5) pa_nil)) pe_int (nomark _)) (pw_and1 (pt_not (pt_val (pe_call (ok_w_both T) (hr.mono (by decide)) (by rfl) T.d_w_both.m T.d_w_both.F.kp T.d_w_both.b .nil pass0 (pa_cons (pv 1) (pa_cons (pv 2) (pa_cons (pv 5) pa_nil)))))))).pt (pss_one (ps_ret pe_bl))
                pss_nil)))
            pss_nil))))
      (pss_cons (ps_set (i := 5) sc_law.nd rfl (by walk_at "O") (pe_callB (call_sortedD (by rfl)) (by rfl) T.z_sorted bo_sorted (pa_cons (pv 2) pa_nil)))
      (pss_cut (ps_if (pw_and (pt_cmpR op_gt (pe_callB call_len_seq (by rfl) T.z_len bo_len (pa_cons (pv 5) pa_nil)) pe_int (nomark _)) (pw_and1 (pt_not (pt_val (pe_call (ok_w_both T) (hr.mono (by decide)) (by rfl) T.d_w_both.m T.d_w_both.F.kp T.d_w_both.b .nil pass0 (pa_cons (pv 1) (pa_cons (pv 2) (pa_cons (pv 5) pa_nil)))))))).pt (pss_one (ps_ret pe_bl))
        pss_nil)
      (pss_cons (ps_setComp (i := 6) rfl sc_law.nd rfl (Or.inl rfl) (⟨rfl, by decide +kernel, by decide +kernel, by decide +kernel, rfl, by decide +kernel, by with_unfolding_all rfl, by rfl, by rfl, by rfl⟩ : CompSt _ _ "_law_gate" [] []) (pi_list (pe_meth0 (pv 1) T.cl_Beach T.d_Beach_gates.mt (ok_Beach_gates T) (hr.mono (by decide)) T.d_Beach_gates.b .nil pass0)) (fun _ _ _ _  => (pe_ix (ix_tupK (K := K) rfl) (pv 0) pe_int (fun _ _ => rfl))) (fun _ _ _ _ => pts_nil))
      (pss_one (ps_ret (pe_cmpR (op_eqLI (Nat.lt_of_succ_lt hu)) (pv 6) (pv 5) (nomark _)))))))))))), ?_⟩
    delta tMake
    refine mk_beach fun b S0 P0 H3 nb nS nP s3 hb d H4 nd s4 e4 => ⟨by decide, fun L H5 nL s5 e5 => ?_⟩
    have s34 := s3.trans s4
    have s35 := s34.trans s5
    have fr : ∀ c ∈ [L, S0, P0], H c = none := fun c hc => by
      simp at hc
      rcases hc with rfl | rfl | rfl
      · exact s34.free nL
      · exact nS
      · exact nP
    have sc5 : Scr K [L, S0, P0] H5 a (ns.map V.int) := Scr.of hS fr s35
    have hw0 : Wd T.C_Beach H5 b S0 P0 [S0, P0] [] [] d L := ⟨hb.same (s4.trans s5), DkAt.nil (s5.get e4), ⟨[], e5, .nil, by simp⟩, (hb.same s4).off nL⟩
    refine ⟨b, S0, P0, d, L, a, ns, 40, rfl, sc5, hw0, by decide, by decide, fun H6 S P ow gs past kt hw => ⟨true, rfl, ?_⟩⟩
    rw [if_neg (by simp)]
    have sc6 := (sc5.kept kt).sq
    have lm : (ns.map V.int).length = ns.length := List.length_map ..
    refine ⟨_, rfl, _, rfl, _, .inl sc6, 5, _, rfl, ⟨by omega, by omega, by omega, by omega⟩, for_range (fun i σ H' => ∃ (o4 o5 o6 : Option V) (S P : Addr) (ow : List Addr) (gs : List G) (past : List (List G)), σ = [some (.ref a), some (.ref b), some (.ref d), some (.ref L), o4, o5, o6] ∧ Kept [L, S0, P0] H5 H' (L :: ow) ∧ Wd T.C_Beach H' b S P ow gs past d L) ⟨_, _, _, S, P, ow, gs, past, rfl, kt, hw⟩ ?_ ?_⟩
    · rintro i σ H7 hi ⟨o4, o5, o6, S, P, ow, gs, past, rfl, kt, hw⟩
      have hi' : 5 + i < ns.length := by omega
      clear hi
      have sc7 := (sc5.kept kt).sq
      obtain ⟨xs, eL, lL⟩ := hw.plen
      walk_at "RD"
      refine ⟨fun σ' H' => ∃ (S P : Addr) (ow : List Addr) (gs : List G) (past : List (List G)), σ' = [some (.ref a), some (.ref b), some (.ref d), some (.ref L), some (.int (5 + (i : Int))), o5, o6] ∧ Kept [L, S0, P0] H5 H' (L :: ow) ∧ Wd T.C_Beach H' b S P ow gs past d L, ?_, ?_⟩
      · walk_at "RD"
        refine ⟨a, 5 + (i : Int), ns, d, L, gs, xs, rfl, sc7, by omega, by omega, by omega, hw.dk, hw.bch.std.len, eL, fun q H8 w p x y n8 s8 e8 wd => ?_⟩
        refine ⟨b, S, P, ow, gs, past, d, L, q, w, p, x, y, rfl, SqT.of e8, hw.same s8, wd, fun H9 S1 P1 ow1 hw9 kt9 => ⟨true, rfl, ?_⟩⟩
        rw [if_neg (by simp)]
        exact ⟨S1, P1, ow1, (kt.same s8).trans kt9, _, _, hw9⟩
      rintro σ' H9 ⟨S1, P1, ow1, gs1, past1, rfl, k9, hw9⟩
      clear hw kt sc7 eL
      obtain ⟨kvs, eD, lD⟩ := hw9.dk.len
      walk_at "RD"
      refine ⟨kvs, eD, ?_⟩
      have l40 := hw9.bch.std.len
      have sc9 := (sc5.kept k9).sq
      by_cases h0 : 1 < kvs.length
      · rw [if_pos (decide_eq_true (by omega))]
        refine ⟨a, 5 + (i : Int), ns, d, gs1, 8, rfl, sc9, by omega, by omega, by omega, hw9.dk, hw9.bch.std, fun z => by rw [z, List.length_nil] at lD; omega, by decide, by decide, fun R H10 ps s10 eR ne nd lps sub => ?_⟩
        have hw10 := hw9.same s10
        refine ⟨R, rfl, _, .inl (SqL.of eR), ?_⟩
        rw [List.length_map]
        by_cases h1 : 1 < ps.length
        · rw [if_pos (decide_eq_true (by omega))]
          refine ⟨b, S1, P1, d, R, ow1, gs1, past1, ps, rfl, hw10.bch, hw10.dk, SqL.of eR, by omega, by omega, nd, sub, fun H11 s11 => ⟨true, rfl, ?_⟩⟩
          rw [if_neg (by simp)]
          exact ⟨⟨_, rfl⟩, ⟨_, rfl⟩, ⟨_, rfl⟩, S1, P1, ow1, (k9.same s10).same s11, _, _, hw10.same s11⟩
        · rw [if_neg (fun z => h1 (by have := of_decide_eq_true z; omega))]
          exact ⟨⟨_, rfl⟩, ⟨_, rfl⟩, ⟨_, rfl⟩, S1, P1, ow1, k9.same s10, _, _, hw10⟩
      · rw [if_neg (fun z => h0 (by have := of_decide_eq_true z; omega))]
        exact ⟨⟨_, rfl⟩, ⟨_, rfl⟩, ⟨_, rfl⟩, S1, P1, ow1, k9, _, _, hw9⟩
    · rintro σ H7 ⟨o4, o5, o6, S, P, ow, gs, past, rfl, kt, hw⟩
      walk_at "RD"
      have l40 := hw.bch.std.len
      refine sortS hw.dk hw.bch.std fun R H8 n8 s8 eR => ?_
      have hw8 := hw.same s8
      have lpl : (places gs).length = gs.length := List.length_map ..
      refine ⟨fun σ' H' => σ' = [some (.ref a), some (.ref b), some (.ref d), some (.ref L), o4, some (.ref R), o6] ∧ Same H8 H', ?_, ?_⟩
      · walk_at "RD"
        refine ⟨_, .inl (SqL.of eR), ?_⟩
        rw [List.length_map, lpl]
        by_cases h1 : 1 < gs.length
        · rw [if_pos (decide_eq_true (by omega))]
          refine ⟨b, S, P, d, R, ow, gs, past, places gs, rfl, hw8.bch, hw8.dk, SqL.of eR, by omega, by omega, hw.bch.std.nd, fun p hp => hp, fun H9 s9 => ⟨true, rfl, ?_⟩⟩
          rw [if_neg (by simp)]
          exact s9
        · rw [if_neg (fun z => h1 (by have := of_decide_eq_true z; omega))]
          exact Same.refl _
      rintro σ' H9 ⟨rfl, s9⟩
      have hw9 := hw8.same s9
      obtain ⟨dx, eb⟩ := hw9.bch.at_
      delta iList
      refine ⟨dx, _, eb, rfl, b, S, P, ow, gs, past, rfl, hw9.bch, fun H10 Dg as n10 s10 e10 ga => ⟨Dg, rfl, ⟨_, SqL.of e10⟩, fun D nD => ?_⟩⟩
      refine comp_filter_map (fun _ => true) (fun g => V.int g.p) (SqL.of e10) ga nD (by omega) (fun v g H R hg s1 ev hR => ?_) (fun v g H R hg s1 ev hR => ?_) fun H1 s1 e1 => ?_
      · exact hR
      · delta Option.join_some
        exact ⟨_, SqT.of ev, _, rfl, hR⟩
      · rw [flt_true, show (gs.map fun g => V.int g.p) = (places gs).map V.int from by rw [List.map_map]; rfl] at e1
        refine ⟨_, SqL.of e1, _, SqL.of (s1.get (s10.get (s9.get eR))), ?_⟩
        rw [decide_eq_true rfl]
        exact k _
end
theorem all_of {l : PySem.W.OpenLaw} {w : World} {K : PySem.W.Frag} {h : Heap} {mg : Str → Option Value} {fa : Addr} (KO : obsK K = valK) (X : K.In h) (G : h.Ns mainGlobals mg) (hfa : mg "law" = some (.ref fa)) :
    ∃ fd : FuncData, (∀ (s : Shared) (v : Value), BindsTo s fd ⟨[v], []⟩ [("_law_script", v)]) ∧ ∀ base : Heap, K.In base → base.Ns mainGlobals mg → FnOk l.prog w K mg base CX0 10 fa fd ["_law_script"] (sp_law K) := by
  obtain ⟨g0, KO⟩ := Prod.mk.inj KO
  obtain ⟨g1, KO⟩ := Prod.mk.inj KO
  obtain ⟨g2, KO⟩ := Prod.mk.inj KO
  obtain ⟨g3, KO⟩ := Prod.mk.inj KO
  obtain ⟨g4, KO⟩ := Prod.mk.inj KO
  obtain ⟨g5, KO⟩ := Prod.mk.inj KO
  obtain ⟨g6, KO⟩ := Prod.mk.inj KO
  obtain ⟨g7, KO⟩ := Prod.mk.inj KO
  obtain ⟨g8, KO⟩ := Prod.mk.inj KO
  obtain ⟨g9, KO⟩ := Prod.mk.inj KO
  obtain ⟨g10, KO⟩ := Prod.mk.inj KO
  obtain ⟨g11, KO⟩ := Prod.mk.inj KO
  obtain ⟨g12, KO⟩ := Prod.mk.inj KO
  obtain ⟨g13, KO⟩ := Prod.mk.inj KO
  obtain ⟨g14, KO⟩ := Prod.mk.inj KO
  obtain ⟨g15, KO⟩ := Prod.mk.inj KO
  obtain ⟨g16, KO⟩ := Prod.mk.inj KO
  obtain ⟨g17, KO⟩ := Prod.mk.inj KO
  obtain ⟨g18, KO⟩ := Prod.mk.inj KO
  obtain ⟨g19, KO⟩ := Prod.mk.inj KO
  have g20 := KO
  obtain ⟨h1, g0⟩ := List.cons.inj g0
  obtain ⟨h2, g0⟩ := List.cons.inj g0
  obtain ⟨h3, g0⟩ := List.cons.inj g0
  obtain ⟨h4, g0⟩ := List.cons.inj g0
  obtain ⟨h5, g0⟩ := List.cons.inj g0
  obtain ⟨h6, g0⟩ := List.cons.inj g0
  obtain ⟨h7, g0⟩ := List.cons.inj g0
  obtain ⟨h8, g0⟩ := List.cons.inj g0
  obtain ⟨h9, g1⟩ := List.cons.inj g1
  obtain ⟨h10, g1⟩ := List.cons.inj g1
  obtain ⟨h11, g1⟩ := List.cons.inj g1
  obtain ⟨h143, g1⟩ := List.cons.inj g1
  obtain ⟨h144, g1⟩ := List.cons.inj g1
  obtain ⟨h145, g1⟩ := List.cons.inj g1
  obtain ⟨h146, g1⟩ := List.cons.inj g1
  obtain ⟨h147, g1⟩ := List.cons.inj g1
  obtain ⟨h148, g2⟩ := List.cons.inj g2
  obtain ⟨h149, g2⟩ := List.cons.inj g2
  obtain ⟨h150, g2⟩ := List.cons.inj g2
  obtain ⟨h151, g2⟩ := List.cons.inj g2
  obtain ⟨h152, g2⟩ := List.cons.inj g2
  obtain ⟨h153, g2⟩ := List.cons.inj g2
  obtain ⟨h154, g2⟩ := List.cons.inj g2
  obtain ⟨h155, g2⟩ := List.cons.inj g2
  obtain ⟨h156, g3⟩ := List.cons.inj g3
  obtain ⟨h157, g3⟩ := List.cons.inj g3
  obtain ⟨h158, g3⟩ := List.cons.inj g3
  obtain ⟨h12, g4⟩ := List.cons.inj g4
  obtain ⟨h13, g4⟩ := List.cons.inj g4
  obtain ⟨h14, g4⟩ := List.cons.inj g4
  obtain ⟨h15, g4⟩ := List.cons.inj g4
  obtain ⟨h16, g4⟩ := List.cons.inj g4
  obtain ⟨h17, g4⟩ := List.cons.inj g4
  obtain ⟨h18, g4⟩ := List.cons.inj g4
  obtain ⟨h19, g4⟩ := List.cons.inj g4
  obtain ⟨h20, g5⟩ := List.cons.inj g5
  obtain ⟨h21, g5⟩ := List.cons.inj g5
  obtain ⟨h22, g5⟩ := List.cons.inj g5
  obtain ⟨h23, g5⟩ := List.cons.inj g5
  obtain ⟨h24, g5⟩ := List.cons.inj g5
  obtain ⟨h25, g5⟩ := List.cons.inj g5
  obtain ⟨h26, g5⟩ := List.cons.inj g5
  obtain ⟨h27, g5⟩ := List.cons.inj g5
  obtain ⟨h28, g6⟩ := List.cons.inj g6
  obtain ⟨h29, g6⟩ := List.cons.inj g6
  obtain ⟨h30, g6⟩ := List.cons.inj g6
  obtain ⟨h31, g6⟩ := List.cons.inj g6
  obtain ⟨h32, g6⟩ := List.cons.inj g6
  obtain ⟨h33, g6⟩ := List.cons.inj g6
  obtain ⟨h34, g6⟩ := List.cons.inj g6
  obtain ⟨h35, g6⟩ := List.cons.inj g6
  obtain ⟨h36, g7⟩ := List.cons.inj g7
  obtain ⟨h37, g7⟩ := List.cons.inj g7
  obtain ⟨h38, g7⟩ := List.cons.inj g7
  obtain ⟨h39, g7⟩ := List.cons.inj g7
  obtain ⟨h40, g7⟩ := List.cons.inj g7
  obtain ⟨h41, g7⟩ := List.cons.inj g7
  obtain ⟨h42, g7⟩ := List.cons.inj g7
  obtain ⟨h43, g7⟩ := List.cons.inj g7
  obtain ⟨h44, g8⟩ := List.cons.inj g8
  obtain ⟨h45, g8⟩ := List.cons.inj g8
  obtain ⟨h46, g8⟩ := List.cons.inj g8
  obtain ⟨h47, g8⟩ := List.cons.inj g8
  obtain ⟨h48, g8⟩ := List.cons.inj g8
  obtain ⟨h49, g8⟩ := List.cons.inj g8
  obtain ⟨h50, g8⟩ := List.cons.inj g8
  obtain ⟨h51, g8⟩ := List.cons.inj g8
  obtain ⟨h52, g9⟩ := List.cons.inj g9
  obtain ⟨h53, g9⟩ := List.cons.inj g9
  obtain ⟨h54, g9⟩ := List.cons.inj g9
  obtain ⟨h55, g9⟩ := List.cons.inj g9
  obtain ⟨h56, g9⟩ := List.cons.inj g9
  obtain ⟨h57, g9⟩ := List.cons.inj g9
  obtain ⟨h58, g9⟩ := List.cons.inj g9
  obtain ⟨h59, g9⟩ := List.cons.inj g9
  obtain ⟨h60, g10⟩ := List.cons.inj g10
  obtain ⟨h61, g10⟩ := List.cons.inj g10
  obtain ⟨h62, g10⟩ := List.cons.inj g10
  obtain ⟨h63, g10⟩ := List.cons.inj g10
  obtain ⟨h64, g10⟩ := List.cons.inj g10
  obtain ⟨h65, g10⟩ := List.cons.inj g10
  obtain ⟨h66, g10⟩ := List.cons.inj g10
  obtain ⟨h67, g10⟩ := List.cons.inj g10
  obtain ⟨h68, g11⟩ := List.cons.inj g11
  obtain ⟨h69, g11⟩ := List.cons.inj g11
  obtain ⟨h70, g11⟩ := List.cons.inj g11
  obtain ⟨h71, g11⟩ := List.cons.inj g11
  obtain ⟨h72, g11⟩ := List.cons.inj g11
  obtain ⟨h73, g11⟩ := List.cons.inj g11
  obtain ⟨h74, g11⟩ := List.cons.inj g11
  obtain ⟨h75, g12⟩ := List.cons.inj g12
  obtain ⟨h76, g12⟩ := List.cons.inj g12
  obtain ⟨h77, g12⟩ := List.cons.inj g12
  obtain ⟨h78, g12⟩ := List.cons.inj g12
  obtain ⟨h79, g12⟩ := List.cons.inj g12
  obtain ⟨h80, g12⟩ := List.cons.inj g12
  obtain ⟨h81, g12⟩ := List.cons.inj g12
  obtain ⟨h82, g12⟩ := List.cons.inj g12
  obtain ⟨h83, g13⟩ := List.cons.inj g13
  obtain ⟨h84, g13⟩ := List.cons.inj g13
  obtain ⟨h85, g13⟩ := List.cons.inj g13
  obtain ⟨h86, g13⟩ := List.cons.inj g13
  obtain ⟨h87, g13⟩ := List.cons.inj g13
  obtain ⟨h88, g13⟩ := List.cons.inj g13
  obtain ⟨h89, g13⟩ := List.cons.inj g13
  obtain ⟨h90, g13⟩ := List.cons.inj g13
  obtain ⟨h91, g14⟩ := List.cons.inj g14
  obtain ⟨h92, g14⟩ := List.cons.inj g14
  obtain ⟨h93, g14⟩ := List.cons.inj g14
  obtain ⟨h94, g14⟩ := List.cons.inj g14
  obtain ⟨h95, g14⟩ := List.cons.inj g14
  obtain ⟨h96, g14⟩ := List.cons.inj g14
  obtain ⟨h97, g14⟩ := List.cons.inj g14
  obtain ⟨h98, g14⟩ := List.cons.inj g14
  obtain ⟨h99, g15⟩ := List.cons.inj g15
  obtain ⟨h100, g15⟩ := List.cons.inj g15
  obtain ⟨h101, g15⟩ := List.cons.inj g15
  obtain ⟨h102, g15⟩ := List.cons.inj g15
  obtain ⟨h103, g15⟩ := List.cons.inj g15
  obtain ⟨h104, g15⟩ := List.cons.inj g15
  obtain ⟨h105, g15⟩ := List.cons.inj g15
  obtain ⟨h106, g15⟩ := List.cons.inj g15
  obtain ⟨h107, g16⟩ := List.cons.inj g16
  obtain ⟨h108, g16⟩ := List.cons.inj g16
  obtain ⟨h109, g16⟩ := List.cons.inj g16
  obtain ⟨h110, g16⟩ := List.cons.inj g16
  obtain ⟨h111, g16⟩ := List.cons.inj g16
  obtain ⟨h112, g16⟩ := List.cons.inj g16
  obtain ⟨h113, g16⟩ := List.cons.inj g16
  obtain ⟨h114, g16⟩ := List.cons.inj g16
  obtain ⟨h115, g17⟩ := List.cons.inj g17
  obtain ⟨h116, g17⟩ := List.cons.inj g17
  obtain ⟨h117, g17⟩ := List.cons.inj g17
  obtain ⟨h118, g17⟩ := List.cons.inj g17
  obtain ⟨h119, g17⟩ := List.cons.inj g17
  obtain ⟨h120, g17⟩ := List.cons.inj g17
  obtain ⟨h121, g17⟩ := List.cons.inj g17
  obtain ⟨h122, g17⟩ := List.cons.inj g17
  obtain ⟨h123, g18⟩ := List.cons.inj g18
  obtain ⟨h124, g18⟩ := List.cons.inj g18
  obtain ⟨h125, g18⟩ := List.cons.inj g18
  obtain ⟨h126, g18⟩ := List.cons.inj g18
  obtain ⟨h127, g18⟩ := List.cons.inj g18
  obtain ⟨h128, g18⟩ := List.cons.inj g18
  obtain ⟨h129, g18⟩ := List.cons.inj g18
  obtain ⟨h130, g18⟩ := List.cons.inj g18
  obtain ⟨h131, g19⟩ := List.cons.inj g19
  obtain ⟨h132, g19⟩ := List.cons.inj g19
  obtain ⟨h133, g19⟩ := List.cons.inj g19
  obtain ⟨h134, g19⟩ := List.cons.inj g19
  obtain ⟨h135, g19⟩ := List.cons.inj g19
  obtain ⟨h136, g19⟩ := List.cons.inj g19
  obtain ⟨h137, g19⟩ := List.cons.inj g19
  obtain ⟨h138, g19⟩ := List.cons.inj g19
  obtain ⟨h139, g20⟩ := List.cons.inj g20
  obtain ⟨h140, g20⟩ := List.cons.inj g20
  obtain ⟨h141, g20⟩ := List.cons.inj g20
  obtain ⟨h142, g20⟩ := List.cons.inj g20
  obtain ⟨C_Beach, aC_Beach, pg_Beach, hd_Beach, po_Beach, sa_Beach, mk_Beach, kc_Beach, na_Beach⟩ := seeC_of h1
  obtain ⟨C_BeachError, aC_BeachError, ex_BeachError⟩ := seeE_of h2
  obtain ⟨C_NoGate, aC_NoGate, ex_NoGate⟩ := seeE_of h3
  obtain ⟨C_Taken, aC_Taken, ex_Taken⟩ := seeE_of h4
  obtain ⟨C_UpsideDown, aC_UpsideDown, ex_UpsideDown⟩ := seeE_of h5
  obtain ⟨C_OutOfBounds, aC_OutOfBounds, ex_OutOfBounds⟩ := seeE_of h6
  obtain ⟨C_BeachFull, aC_BeachFull, ex_BeachFull⟩ := seeE_of h7
  obtain ⟨C_DeedsFull, aC_DeedsFull, ex_DeedsFull⟩ := seeE_of h8
  obtain ⟨C_NothingBack, aC_NothingBack, ex_NothingBack⟩ := seeE_of h9
  obtain ⟨C_BadList, aC_BadList, ex_BadList⟩ := seeE_of h10
  obtain ⟨C_TooFew, aC_TooFew, ex_TooFew⟩ := seeE_of h11
  obtain ⟨f1, fd1, d1⟩ := seeD_D (ps := ["place", "height", "start", "end"]) X G h75 fun _ _ _ _ _ _ us hl => by obtain ⟨x0, x1, x2, x3, rfl⟩ := len4 hl; rfl
  obtain ⟨f2, fd2, d2⟩ := seeD_D (ps := ["one", "two", "three"]) X G h76 fun _ _ _ _ _ _ us hl => by obtain ⟨x0, x1, x2, rfl⟩ := len3 hl; rfl
  obtain ⟨f3, fd3, d3⟩ := seeD_D (ps := ["gates"]) X G h77 fun _ _ _ _ _ _ us hl => by obtain ⟨x0, rfl⟩ := len1 hl; rfl
  obtain ⟨f4, fd4, d4⟩ := seeD_D (ps := ["one", "two"]) X G h78 fun _ _ _ _ _ _ us hl => by obtain ⟨x0, x1, rfl⟩ := len2 hl; rfl
  obtain ⟨f5, fd5, d5⟩ := seeD_D (ps := ["top", "bottom"]) X G h79 fun _ _ _ _ _ _ us hl => by obtain ⟨x0, x1, rfl⟩ := len2 hl; rfl
  obtain ⟨f6, fd6, d6⟩ := seeD_D (ps := ["one", "two"]) X G h80 fun _ _ _ _ _ _ us hl => by obtain ⟨x0, x1, rfl⟩ := len2 hl; rfl
  obtain ⟨f7, fd7, d7⟩ := seeD_D (ps := ["throw", "place"]) X G h81 fun _ _ _ _ _ _ us hl => by obtain ⟨x0, x1, rfl⟩ := len2 hl; rfl
  obtain ⟨f8, fd8, d8⟩ := seeD_D (ps := ["place", "height", "other", "second"]) X G h82 fun _ _ _ _ _ _ us hl => by obtain ⟨x0, x1, x2, x3, rfl⟩ := len4 hl; rfl
  obtain ⟨f9, fd9, d9⟩ := seeD_D (ps := ["throw", "gate"]) X G h83 fun _ _ _ _ _ _ us hl => by obtain ⟨x0, x1, rfl⟩ := len2 hl; rfl
  obtain ⟨f10, fd10, d10⟩ := seeD_D (ps := ["throw", "gates"]) X G h84 fun _ _ _ _ _ _ us hl => by obtain ⟨x0, x1, rfl⟩ := len2 hl; rfl
  obtain ⟨f11, fd11, d11⟩ := seeD_D (ps := ["earlier", "later"]) X G h85 fun _ _ _ _ _ _ us hl => by obtain ⟨x0, x1, rfl⟩ := len2 hl; rfl
  obtain ⟨f12, fd12, d12⟩ := seeD_D (ps := ["ordered"]) X G h86 fun _ _ _ _ _ _ us hl => by obtain ⟨x0, rfl⟩ := len1 hl; rfl
  obtain ⟨f13, fd13, d13⟩ := seeD_D (ps := ["ordered"]) X G h87 fun _ _ _ _ _ _ us hl => by obtain ⟨x0, rfl⟩ := len1 hl; rfl
  obtain ⟨f14, fd14, d14⟩ := seeD_D (ps := ["gates"]) X G h88 fun _ _ _ _ _ _ us hl => by obtain ⟨x0, rfl⟩ := len1 hl; rfl
  obtain ⟨f15, fd15, d15⟩ := seeD_D (ps := ["gates"]) X G h89 fun _ _ _ _ _ _ us hl => by obtain ⟨x0, rfl⟩ := len1 hl; rfl
  obtain ⟨f16, fd16, d16⟩ := seeD_D (ps := ["gate"]) X G h90 fun _ _ _ _ _ _ us hl => by obtain ⟨x0, rfl⟩ := len1 hl; rfl
  obtain ⟨f17, fd17, d17⟩ := seeD_D (ps := ["throw"]) X G h91 fun _ _ _ _ _ _ us hl => by obtain ⟨x0, rfl⟩ := len1 hl; rfl
  obtain ⟨f18, fd18, d18⟩ := seeD_D (ps := ["gates"]) X G h92 fun _ _ _ _ _ _ us hl => by obtain ⟨x0, rfl⟩ := len1 hl; rfl
  obtain ⟨f19, fd19, d19⟩ := seeD_D (ps := ["gate"]) X G h93 fun _ _ _ _ _ _ us hl => by obtain ⟨x0, rfl⟩ := len1 hl; rfl
  obtain ⟨f20, fd20, d20⟩ := seeD_D (ps := ["places"]) X G h94 fun _ _ _ _ _ _ us hl => by obtain ⟨x0, rfl⟩ := len1 hl; rfl
  obtain ⟨f21, fd21, d21⟩ := seeM_D (ps := ["self"]) aC_Beach h95 fun _ _ _ _ _ _ us hl => by obtain ⟨x0, rfl⟩ := len1 hl; rfl
  obtain ⟨f22, fd22, d22⟩ := seeM_D (ps := ["self", "place"]) aC_Beach h96 fun _ _ _ _ _ _ us hl => by obtain ⟨x0, x1, rfl⟩ := len2 hl; rfl
  obtain ⟨f23, fd23, d23⟩ := seeM_D (ps := ["self", "place"]) aC_Beach h97 fun _ _ _ _ _ _ us hl => by obtain ⟨x0, x1, rfl⟩ := len2 hl; rfl
  obtain ⟨f24, fd24, d24⟩ := seeM_D (ps := ["self", "place", "instead"]) aC_Beach h98 fun _ _ _ _ _ _ us hl => by obtain ⟨x0, x1, x2, rfl⟩ := len3 hl; rfl
  obtain ⟨f25, fd25, d25⟩ := seeM_D (ps := ["self", "place", "foot", "head"]) aC_Beach h99 fun _ _ _ _ _ _ us hl => by obtain ⟨x0, x1, x2, x3, rfl⟩ := len4 hl; rfl
  obtain ⟨f26, fd26, d26⟩ := seeM_D (ps := ["self", "place"]) aC_Beach h100 fun _ _ _ _ _ _ us hl => by obtain ⟨x0, x1, rfl⟩ := len2 hl; rfl
  obtain ⟨f27, fd27, d27⟩ := seeM_D (ps := ["self", "place", "foot_by", "head_by"]) aC_Beach h101 fun _ _ _ _ _ _ us hl => by obtain ⟨x0, x1, x2, x3, rfl⟩ := len4 hl; rfl
  obtain ⟨f28, fd28, d28⟩ := seeM_D (ps := ["self", "place", "foot_by", "head_by"]) aC_Beach h102 fun _ _ _ _ _ _ us hl => by obtain ⟨x0, x1, x2, x3, rfl⟩ := len4 hl; rfl
  obtain ⟨f29, fd29, d29⟩ := seeM1_D (ps := ["self", "many"]) aC_Beach h103 (fun s d _ _ _ _ _ _ _ _ _ _ _ us ho hl => by obtain ⟨x0, x1, rfl⟩ := len2 hl; exact BindsTo.of_defaults (T := d) rfl ho rfl rfl rfl) (fun s d _ _ _ _ _ _ _ _ _ _ _ us ho hl => by obtain ⟨x0, rfl⟩ := len1 (Nat.succ.inj hl); exact BindsTo.of_defaults (T := d) rfl ho rfl rfl rfl)
  obtain ⟨f30, fd30, d30⟩ := seeM_D (ps := ["self"]) aC_Beach h104 fun _ _ _ _ _ _ us hl => by obtain ⟨x0, rfl⟩ := len1 hl; rfl
  obtain ⟨f31, fd31, d31⟩ := seeM_D (ps := ["self"]) aC_Beach h105 fun _ _ _ _ _ _ us hl => by obtain ⟨x0, rfl⟩ := len1 hl; rfl
  obtain ⟨f32, fd32, d32⟩ := seeM_D (ps := ["self", "places"]) aC_Beach h106 fun _ _ _ _ _ _ us hl => by obtain ⟨x0, x1, rfl⟩ := len2 hl; rfl
  obtain ⟨f33, fd33, d33⟩ := seeM_D (ps := ["self", "places"]) aC_Beach h107 fun _ _ _ _ _ _ us hl => by obtain ⟨x0, x1, rfl⟩ := len2 hl; rfl
  obtain ⟨f34, fd34, d34⟩ := seeM_D (ps := ["self", "places"]) aC_Beach h108 fun _ _ _ _ _ _ us hl => by obtain ⟨x0, x1, rfl⟩ := len2 hl; rfl
  obtain ⟨f35, fd35, d35⟩ := seeM_D (ps := ["self", "places"]) aC_Beach h109 fun _ _ _ _ _ _ us hl => by obtain ⟨x0, x1, rfl⟩ := len2 hl; rfl
  obtain ⟨f36, fd36, d36⟩ := seeD_D (ps := ["_law_script", "_law_k"]) X G h110 fun _ _ _ _ _ _ us hl => by obtain ⟨x0, x1, rfl⟩ := len2 hl; rfl
  obtain ⟨f37, fd37, d37⟩ := seeD_D (ps := ["_law_cell", "_law_many", "_law_mixed"]) X G h111 fun _ _ _ _ _ _ us hl => by obtain ⟨x0, x1, x2, rfl⟩ := len3 hl; rfl
  obtain ⟨f38, fd38, d38⟩ := seeD_D (ps := ["_law_kind", "_law_line", "_law_wide", "_law_low", "_law_high"]) X G h112 fun _ _ _ _ _ _ us hl => by obtain ⟨x0, x1, x2, x3, x4, rfl⟩ := len5 hl; rfl
  obtain ⟨f39, fd39, d39⟩ := seeD_D (ps := ["_law_script", "_law_at_here", "_law_many"]) X G h113 fun _ _ _ _ _ _ us hl => by obtain ⟨x0, x1, x2, rfl⟩ := len3 hl; rfl
  obtain ⟨f40, fd40, d40⟩ := seeD_D (ps := ["_law_found"]) X G h114 fun _ _ _ _ _ _ us hl => by obtain ⟨x0, rfl⟩ := len1 hl; rfl
  obtain ⟨f41, fd41, d41⟩ := seeD_D (ps := ["_law_found", "_law_due"]) X G h115 fun _ _ _ _ _ _ us hl => by obtain ⟨x0, x1, rfl⟩ := len2 hl; rfl
  obtain ⟨f42, fd42, d42⟩ := seeD_D (ps := ["_law_stands", "_law_deed_here"]) X G h116 fun _ _ _ _ _ _ us hl => by obtain ⟨x0, x1, rfl⟩ := len2 hl; rfl
  obtain ⟨f43, fd43, d43⟩ := seeD_D (ps := ["_law_stands", "_law_past", "_law_deed_here"]) X G h117 fun _ _ _ _ _ _ us hl => by obtain ⟨x0, x1, x2, rfl⟩ := len3 hl; rfl
  obtain ⟨f44, fd44, d44⟩ := seeD_D (ps := ["_law_beach", "_law_deed_here"]) X G h118 fun _ _ _ _ _ _ us hl => by obtain ⟨x0, x1, rfl⟩ := len2 hl; rfl
  obtain ⟨f45, fd45, d45⟩ := seeD_D (ps := ["_law_stands", "_law_past", "_law_deed_here"]) X G h119 fun _ _ _ _ _ _ us hl => by obtain ⟨x0, x1, x2, rfl⟩ := len3 hl; rfl
  obtain ⟨f46, fd46, d46⟩ := seeD_D (ps := ["_law_beach", "_law_stands", "_law_past", "_law_deed_here"]) X G h120 fun _ _ _ _ _ _ us hl => by obtain ⟨x0, x1, x2, x3, rfl⟩ := len4 hl; rfl
  obtain ⟨f47, fd47, d47⟩ := seeD_D (ps := ["_law_script"]) X G h121 fun _ _ _ _ _ _ us hl => by obtain ⟨x0, rfl⟩ := len1 hl; rfl
  obtain ⟨f48, fd48, d48⟩ := seeD_D (ps := ["_law_beach", "_law_stands", "_law_past", "_law_script", "_law_most"]) X G h122 fun _ _ _ _ _ _ us hl => by obtain ⟨x0, x1, x2, x3, x4, rfl⟩ := len5 hl; rfl
  obtain ⟨f49, fd49, d49⟩ := seeD_D (ps := ["_law_draw"]) X G h123 fun _ _ _ _ _ _ us hl => by obtain ⟨x0, rfl⟩ := len1 hl; rfl
  obtain ⟨f50, fd50, d50⟩ := seeD_D (ps := ["_law_script", "_law_k", "_law_stands", "_law_past"]) X G h124 fun _ _ _ _ _ _ us hl => by obtain ⟨x0, x1, x2, x3, rfl⟩ := len4 hl; rfl
  obtain ⟨f51, fd51, d51⟩ := seeD_D (ps := ["_law_script", "_law_k", "_law_stands", "_law_most"]) X G h125 fun _ _ _ _ _ _ us hl => by obtain ⟨x0, x1, x2, x3, rfl⟩ := len4 hl; rfl
  obtain ⟨f52, fd52, d52⟩ := seeD_D (ps := ["_law_stands", "_law_places"]) X G h126 fun _ _ _ _ _ _ us hl => by obtain ⟨x0, x1, rfl⟩ := len2 hl; rfl
  obtain ⟨f53, fd53, d53⟩ := seeD_D (ps := ["_law_one", "_law_two"]) X G h127 fun _ _ _ _ _ _ us hl => by obtain ⟨x0, x1, rfl⟩ := len2 hl; rfl
  obtain ⟨f54, fd54, d54⟩ := seeD_D (ps := ["_law_found"]) X G h128 fun _ _ _ _ _ _ us hl => by obtain ⟨x0, rfl⟩ := len1 hl; rfl
  obtain ⟨f55, fd55, d55⟩ := seeD_D (ps := ["_law_throw_here", "_law_place", "_law_height"]) X G h129 fun _ _ _ _ _ _ us hl => by obtain ⟨x0, x1, x2, rfl⟩ := len3 hl; rfl
  obtain ⟨f56, fd56, d56⟩ := seeD_D (ps := ["_law_throw_here", "_law_gate"]) X G h130 fun _ _ _ _ _ _ us hl => by obtain ⟨x0, x1, rfl⟩ := len2 hl; rfl
  obtain ⟨f57, fd57, d57⟩ := seeD_D (ps := ["_law_throw_here", "_law_row"]) X G h131 fun _ _ _ _ _ _ us hl => by obtain ⟨x0, x1, rfl⟩ := len2 hl; rfl
  obtain ⟨f58, fd58, d58⟩ := seeD_D (ps := ["_law_one", "_law_two", "_law_three_here"]) X G h132 fun _ _ _ _ _ _ us hl => by obtain ⟨x0, x1, x2, rfl⟩ := len3 hl; rfl
  obtain ⟨f59, fd59, d59⟩ := seeD_D (ps := ["_law_row"]) X G h133 fun _ _ _ _ _ _ us hl => by obtain ⟨x0, rfl⟩ := len1 hl; rfl
  obtain ⟨f60, fd60, d60⟩ := seeD_D (ps := ["_law_found", "_law_row"]) X G h134 fun _ _ _ _ _ _ us hl => by obtain ⟨x0, x1, rfl⟩ := len2 hl; rfl
  obtain ⟨f61, fd61, d61⟩ := seeD_D (ps := ["_law_found", "_law_row"]) X G h135 fun _ _ _ _ _ _ us hl => by obtain ⟨x0, x1, rfl⟩ := len2 hl; rfl
  obtain ⟨f62, fd62, d62⟩ := seeD_D (ps := ["_law_found", "_law_row", "_law_ends"]) X G h136 fun _ _ _ _ _ _ us hl => by obtain ⟨x0, x1, x2, rfl⟩ := len3 hl; rfl
  obtain ⟨f63, fd63, d63⟩ := seeD_D (ps := ["_law_beach", "_law_stands", "_law_places"]) X G h137 fun _ _ _ _ _ _ us hl => by obtain ⟨x0, x1, x2, rfl⟩ := len3 hl; rfl
  obtain ⟨f64, oc, od, sl, kV, dc, pm, an, cd, ct, a, l, c, k⟩ := seeD_of h138
  obtain ⟨t_LEAST, ak_LEAST⟩ := seeI_of h139
  obtain ⟨t_GREATEST, ak_GREATEST⟩ := seeI_of h140
  obtain ⟨t_MOST_GATES, ak_MOST_GATES⟩ := seeI_of h141
  obtain ⟨t_MOST_DEEDS, ak_MOST_DEEDS⟩ := seeI_of h142
  have e := hfa.symm.trans (PySem.W.mg_of X G a)
  cases e
  let T : Tx K mg := ⟨C_Beach,
    PySem.W.mg_of X G aC_Beach,
    ⟨pg_Beach, hd_Beach, po_Beach, sa_Beach⟩,
    na_Beach "standing" (by simp only [List.mem_cons, true_or, or_true]),
    na_Beach "past" (by simp only [List.mem_cons, true_or, or_true]),
    C_BeachError,
    PySem.W.mg_of X G aC_BeachError,
    ex_BeachError,
    C_NoGate,
    PySem.W.mg_of X G aC_NoGate,
    ex_NoGate,
    C_Taken,
    PySem.W.mg_of X G aC_Taken,
    ex_Taken,
    C_UpsideDown,
    PySem.W.mg_of X G aC_UpsideDown,
    ex_UpsideDown,
    C_OutOfBounds,
    PySem.W.mg_of X G aC_OutOfBounds,
    ex_OutOfBounds,
    C_BeachFull,
    PySem.W.mg_of X G aC_BeachFull,
    ex_BeachFull,
    C_DeedsFull,
    PySem.W.mg_of X G aC_DeedsFull,
    ex_DeedsFull,
    C_NothingBack,
    PySem.W.mg_of X G aC_NothingBack,
    ex_NothingBack,
    C_BadList,
    PySem.W.mg_of X G aC_BadList,
    ex_BadList,
    C_TooFew,
    PySem.W.mg_of X G aC_TooFew,
    ex_TooFew,
    seeX_of aC_NoGate aC_NoGate h12,
    seeX_of aC_NoGate aC_Taken h13,
    seeX_of aC_NoGate aC_UpsideDown h14,
    seeX_of aC_NoGate aC_OutOfBounds h15,
    seeX_of aC_NoGate aC_BeachFull h16,
    seeX_of aC_NoGate aC_DeedsFull h17,
    seeX_of aC_NoGate aC_NothingBack h18,
    seeX_of aC_Taken aC_NoGate h19,
    seeX_of aC_Taken aC_Taken h20,
    seeX_of aC_Taken aC_UpsideDown h21,
    seeX_of aC_Taken aC_OutOfBounds h22,
    seeX_of aC_Taken aC_BeachFull h23,
    seeX_of aC_Taken aC_DeedsFull h24,
    seeX_of aC_Taken aC_NothingBack h25,
    seeX_of aC_UpsideDown aC_NoGate h26,
    seeX_of aC_UpsideDown aC_Taken h27,
    seeX_of aC_UpsideDown aC_UpsideDown h28,
    seeX_of aC_UpsideDown aC_OutOfBounds h29,
    seeX_of aC_UpsideDown aC_BeachFull h30,
    seeX_of aC_UpsideDown aC_DeedsFull h31,
    seeX_of aC_UpsideDown aC_NothingBack h32,
    seeX_of aC_OutOfBounds aC_NoGate h33,
    seeX_of aC_OutOfBounds aC_Taken h34,
    seeX_of aC_OutOfBounds aC_UpsideDown h35,
    seeX_of aC_OutOfBounds aC_OutOfBounds h36,
    seeX_of aC_OutOfBounds aC_BeachFull h37,
    seeX_of aC_OutOfBounds aC_DeedsFull h38,
    seeX_of aC_OutOfBounds aC_NothingBack h39,
    seeX_of aC_BeachFull aC_NoGate h40,
    seeX_of aC_BeachFull aC_Taken h41,
    seeX_of aC_BeachFull aC_UpsideDown h42,
    seeX_of aC_BeachFull aC_OutOfBounds h43,
    seeX_of aC_BeachFull aC_BeachFull h44,
    seeX_of aC_BeachFull aC_DeedsFull h45,
    seeX_of aC_BeachFull aC_NothingBack h46,
    seeX_of aC_DeedsFull aC_NoGate h47,
    seeX_of aC_DeedsFull aC_Taken h48,
    seeX_of aC_DeedsFull aC_UpsideDown h49,
    seeX_of aC_DeedsFull aC_OutOfBounds h50,
    seeX_of aC_DeedsFull aC_BeachFull h51,
    seeX_of aC_DeedsFull aC_DeedsFull h52,
    seeX_of aC_DeedsFull aC_NothingBack h53,
    seeX_of aC_NothingBack aC_NoGate h54,
    seeX_of aC_NothingBack aC_Taken h55,
    seeX_of aC_NothingBack aC_UpsideDown h56,
    seeX_of aC_NothingBack aC_OutOfBounds h57,
    seeX_of aC_NothingBack aC_BeachFull h58,
    seeX_of aC_NothingBack aC_DeedsFull h59,
    seeX_of aC_NothingBack aC_NothingBack h60,
    seeX_of aC_BadList aC_NoGate h61,
    seeX_of aC_BadList aC_Taken h62,
    seeX_of aC_BadList aC_UpsideDown h63,
    seeX_of aC_BadList aC_OutOfBounds h64,
    seeX_of aC_BadList aC_BeachFull h65,
    seeX_of aC_BadList aC_DeedsFull h66,
    seeX_of aC_BadList aC_NothingBack h67,
    seeX_of aC_TooFew aC_NoGate h68,
    seeX_of aC_TooFew aC_Taken h69,
    seeX_of aC_TooFew aC_UpsideDown h70,
    seeX_of aC_TooFew aC_OutOfBounds h71,
    seeX_of aC_TooFew aC_BeachFull h72,
    seeX_of aC_TooFew aC_DeedsFull h73,
    seeX_of aC_TooFew aC_NothingBack h74,
    f1, fd1, d1,
    f2, fd2, d2,
    f3, fd3, d3,
    f4, fd4, d4,
    f5, fd5, d5,
    f6, fd6, d6,
    f7, fd7, d7,
    f8, fd8, d8,
    f9, fd9, d9,
    f10, fd10, d10,
    f11, fd11, d11,
    f12, fd12, d12,
    f13, fd13, d13,
    f14, fd14, d14,
    f15, fd15, d15,
    f16, fd16, d16,
    f17, fd17, d17,
    f18, fd18, d18,
    f19, fd19, d19,
    f20, fd20, d20,
    f21, fd21, d21,
    f22, fd22, d22,
    f23, fd23, d23,
    f24, fd24, d24,
    f25, fd25, d25,
    f26, fd26, d26,
    f27, fd27, d27,
    f28, fd28, d28,
    f29, fd29, d29,
    f30, fd30, d30,
    f31, fd31, d31,
    f32, fd32, d32,
    f33, fd33, d33,
    f34, fd34, d34,
    f35, fd35, d35,
    f36, fd36, d36,
    f37, fd37, d37,
    f38, fd38, d38,
    f39, fd39, d39,
    f40, fd40, d40,
    f41, fd41, d41,
    f42, fd42, d42,
    f43, fd43, d43,
    f44, fd44, d44,
    f45, fd45, d45,
    f46, fd46, d46,
    f47, fd47, d47,
    f48, fd48, d48,
    f49, fd49, d49,
    f50, fd50, d50,
    f51, fd51, d51,
    f52, fd52, d52,
    f53, fd53, d53,
    f54, fd54, d54,
    f55, fd55, d55,
    f56, fd56, d56,
    f57, fd57, d57,
    f58, fd58, d58,
    f59, fd59, d59,
    f60, fd60, d60,
    f61, fd61, d61,
    f62, fd62, d62,
    f63, fd63, d63,
    _, _, ⟨fun_mk l c k, PySem.W.mg_of X G a, (fun_mk l c k).binds (ps := ["_law_script"]) fun _ _ _ _ _ _ us hl => by obtain ⟨x0, rfl⟩ := len1 hl; rfl⟩,
    ⟨mk_Beach, d21.mt.1, d21.mt.2, kc_Beach⟩,
    _,
    PySem.W.mg_of X G ak_LEAST,
    ⟨_, rfl⟩,
    _,
    PySem.W.mg_of X G ak_GREATEST,
    ⟨_, rfl⟩,
    _,
    PySem.W.mg_of X G ak_MOST_GATES,
    ⟨_, rfl⟩,
    _,
    PySem.W.mg_of X G ak_MOST_DEEDS,
    ⟨_, rfl⟩,
    PySem.W.mg_none_of X G (seeZ_of h143),
    PySem.W.mg_none_of X G (seeZ_of h144),
    PySem.W.mg_none_of X G (seeZ_of h145),
    PySem.W.mg_none_of X G (seeZ_of h146),
    PySem.W.mg_none_of X G (seeZ_of h147),
    PySem.W.mg_none_of X G (seeZ_of h148),
    PySem.W.mg_none_of X G (seeZ_of h149),
    PySem.W.mg_none_of X G (seeZ_of h150),
    PySem.W.mg_none_of X G (seeZ_of h151),
    PySem.W.mg_none_of X G (seeZ_of h152),
    PySem.W.mg_none_of X G (seeZ_of h153),
    PySem.W.mg_none_of X G (seeZ_of h154),
    PySem.W.mg_none_of X G (seeZ_of h155),
    PySem.W.mg_none_of X G (seeZ_of h156),
    PySem.W.mg_none_of X G (seeZ_of h157),
    PySem.W.mg_none_of X G (seeZ_of h158)⟩
  exact ⟨_, fun s v => .of_eq rfl, fun base _ _ => ok_law T⟩
end TG
open PySem PySem.W PyProof.Rows
set_option maxRecDepth 100000 in
set_option maxHeartbeats 0 in
theorem PySem.Challenge.cw_throwgate_k39_whole_steepest_flattest_holds : PySem.Challenge.rw_throwgate_k39_whole_steepest_flattest.Holds := by
  w_on; o_law
  refine holds_open (q := TG.qv) (loose := TG.looseN) (Xt := fun _ => true) (XP := fun _ _ => True) (Yf := fun s => TG.obsK (TG.Kof TG.addrs s.heap)) (Ya := fun _ => TG.valK) (YP := TG.Says TG.addrs TG.obsK TG.valK) (N := 9374) TG.left (fun w s e => TG.Says.of w s e) TG.Says.keeps (fun _ _ => trivial) (fun _ _ _ _ _ => trivial) (by rfl) (by rfl) (by rfl) (fun _ _ => TG.noRecs rfl) rfl (by assumption) (by decide +kernel) ⟨rfl, rfl, rfl, rfl, rfl, by decide +kernel⟩ ?hw ?hc
  case hw => w_witness2
  case hc =>
    exact TG.walk_ofE (l := PySem.Challenge.rw_throwgate_k39_whole_steepest_flattest) (n := 63) (k := 10) (x := "_law_script") (CX := L2.CX0) (sp := TG.sp_law) rfl (by decide) rfl ⟨rfl, by decide, by decide⟩ (fun w mg fa h K KO KX G hmg => TG.all_of KO KX G hmg) (fun _ _ a ns hl _ hS => ⟨a, ns, rfl, hS, hl, fun _ => rfl⟩) fun _ _ _ _ z => z
