import PyProof.Rows.All
import Wide.All
import OpenK.AllK
import Wide.FinOn
import Lean
import PyProof.EqAt
import PyProof.EqKinds
import PyProof.TupleCall
import KE.KMinKey
import KE.KIntText
import PyProof.MeetsStr2
import PyProof.FString
import PyProof.FString2
import PyProof.StrLawsTight
import PyProof.StrLawsIdx
import PyProof.StrBlockL
import PyProof.StrBlock2
import PyProof.Rows.StrJoin2
import PyProof.Rows.StrBin
import PyProof.Rows.StrItems
import KE.IntTextText
import Open.Fast
import PySem.Challenge.RW_throwgate_k43_whole_taken_back
set_option bootstrap.genMatcherCode false
set_option genSizeOf false
set_option compiler.small 0
set_option Elab.async false
set_option linter.all false
set_option maxRecDepth 100000
noncomputable abbrev z4 := @List.getElem?_eq_getElem
noncomputable abbrev z5 := @List.length_map
noncomputable abbrev z6 := @of_decide_eq_true
noncomputable abbrev z8 := @decide_eq_true
noncomputable abbrev zA := @List.getElem?_eq_some_iff
noncomputable abbrev zB := @PySem.Heap.get?_push_of_some
noncomputable abbrev zC := @List.length_append
noncomputable abbrev zD := @List.mem_cons_of_mem
noncomputable abbrev zE := @List.length_cons
noncomputable abbrev zF := @Nat.lt_of_lt_of_le
noncomputable abbrev zG := @Nat.le_refl
noncomputable abbrev zH := @PySem.Heap.lt_size
noncomputable abbrev zI := @List.getD_eq_getElem?_getD
noncomputable abbrev zJ := @List.getElem?_map
noncomputable abbrev zK := @List.mem_singleton
noncomputable abbrev zL := @List.mem_cons
noncomputable abbrev zM := @List.take_succ_eq_append_getElem
noncomputable abbrev zN := @Option.some.inj
noncomputable abbrev zO := @Int.mul_le_mul_of_nonneg_right
noncomputable abbrev zP := @List.length_nil
noncomputable abbrev zQ := @List.size_toArray
noncomputable abbrev zR := @List.mem_cons_self
noncomputable abbrev zS := @Bool.false_ne_true
noncomputable abbrev zT := @Nat.le_trans
noncomputable abbrev zU := @List.mem_of_getElem?
noncomputable abbrev zV := @List.getElem_mem
noncomputable abbrev zW := @List.map_append
noncomputable abbrev zX := @Nat.ne_of_lt
noncomputable abbrev zY := @PySem.Heap.get?_push_size
noncomputable abbrev zZ := @List.map_cons
noncomputable abbrev za := @decide_eq_false
noncomputable abbrev zb := @List.mem_append
noncomputable abbrev zc := @List.mem_append_right
noncomputable abbrev zd := @Array.getD_eq_getD_getElem?
noncomputable abbrev ze := @Option.map_eq_some_iff
noncomputable abbrev zf := @List.mem_map
noncomputable abbrev zg := @List.getElem?_append_right
noncomputable abbrev zh := @List.length_take
noncomputable abbrev zi := @Nat.zero_le
noncomputable abbrev zj := @Int.le_of_mul_le_mul_left
noncomputable abbrev zk := @Int.mul_le_mul_of_nonneg_left
noncomputable abbrev zl := @List.take_length
noncomputable abbrev zm := @List.mem_of_mem_take
noncomputable abbrev zn := @Bool.false_eq_true
noncomputable abbrev zo := @List.filter_cons
noncomputable abbrev zp := @List.mem_iff_getElem?
noncomputable abbrev zr := @Nat.lt_irrefl
noncomputable abbrev zt := @Nat.ne_of_gt
noncomputable abbrev zu := @List.length_drop
noncomputable abbrev zv := @Prod.mk.inj
noncomputable abbrev zw := @List.length_filter_le
noncomputable abbrev zx := @List.Perm.refl
noncomputable abbrev zy := @List.cons.injEq
noncomputable abbrev zz := @List.mem_append_left
noncomputable abbrev q9 := @Bool.and_eq_true_iff
noncomputable abbrev qA := @Option.join_some
noncomputable abbrev qB := @Int.le_of_lt
noncomputable abbrev qC := @List.pairwise_map
noncomputable abbrev qD := @List.filterMap_cons
noncomputable abbrev qE := @List.mem_filter
noncomputable abbrev qF := @List.getElem?_append_left
noncomputable abbrev qG := @List.getElem?_take_of_lt
noncomputable abbrev qH := @List.flatMap_cons
noncomputable abbrev qI := @List.append_assoc
noncomputable abbrev qJ := @List.filter_append
noncomputable abbrev qK := @List.append_nil
noncomputable abbrev qL := @List.nodup_cons
noncomputable abbrev qM := @Option.map_some
noncomputable abbrev qN := @List.map_map
namespace L2
open PySem PySem.Spec PyProof.Rows
noncomputable abbrev Key := Sum Int Str
noncomputable def N2 : Key → Value → Bool
 | .inl k, v => Value.isInt k v
 | .inr x, v => Value.isStrOf x v
noncomputable def keyH (w : World) : Key → Int
 | .inl k => hashInt k
 | .inr x => hashStr w x
theorem BC : ∀ {k : Key} {v : Value}, N2 k v = true → (∃ i t, k = Sum.inl i ∧ v = Value.int i t) ∨ (∃ x t, k = Sum.inr x ∧ v = Value.str x t)
 | .inl i, v, h => by
  obtain ⟨t, e⟩ := Value.isInt_shape (k := i) (v := v) h
  exact .inl ⟨i, t, rfl, e⟩
 | .inr x, v, h => by
  obtain ⟨t, e⟩ := Value.isStrOf_shape (x := x) (v := v) h
  exact .inr ⟨x, t, rfl, e⟩
theorem Tt (i : Int) (t : Tok) : N2 (.inl i) (.int i t) = true := by simp [N2, Value.isInt]
theorem T6 (x : Str) (t : Tok) : N2 (.inr x) (.str x t) = true := by simp [N2, Value.isStrOf]
theorem aQ (a b : Int) : decide ((Sum.inl a : Key) = Sum.inl b) = (a == b) := by
 by_cases e : a = b
 ·subst e; simp
 ·have h : ¬ (Sum.inl a : Key) = Sum.inl b := fun q => e (Sum.inl.inj q)
  rw [za h]
  exact (beq_eq_false_iff_ne.mpr e).symm
theorem Xx (a b : Str) : decide ((Sum.inr a : Key) = Sum.inr b) = decide (a = b) := by
 by_cases e : a = b
 ·subst e; simp
 ·have h : ¬ (Sum.inr a : Key) = Sum.inr b := fun q => e (Sum.inr.inj q)
  rw [za h, za e]
theorem Z1 (a : Int) (b : Str) : decide ((Sum.inl a : Key) = Sum.inr b) = false := za (fun q => nomatch q)
theorem XW (a : Str) (b : Int) : decide ((Sum.inr a : Key) = Sum.inl b) = false := za (fun q => nomatch q)
noncomputable def A8 (prog : Program) (w : World) : PySem.KeyKind prog w Key where
 is := N2
 hash := keyH w
 inj := fun v a b ha hb => by
  rcases BC ha with ⟨i, t, rfl, rfl⟩ | ⟨x, t, rfl, rfl⟩
  ·rcases BC hb with ⟨j, u, rfl, e⟩ | ⟨y, u, rfl, e⟩
   ·injection e with e1 _; rw [e1]
   ·exact nomatch e
  ·rcases BC hb with ⟨j, u, rfl, e⟩ | ⟨y, u, rfl, e⟩
   ·exact nomatch e
   ·injection e with e1 _; rw [e1]
 byValue := fun k v h => by
  rcases BC h with ⟨i, t, rfl, rfl⟩ | ⟨x, t, rfl, rfl⟩ <;> rfl
 pyHash := fun hv h => by
  rcases BC hv with ⟨i, t, rfl, rfl⟩ | ⟨x, t, rfl, rfl⟩
  ·exact wpAny_pyHash_int h
  ·exact wpAny_pyHash_str h
 eqBool := fun hu hv h => by
  rcases BC hu with ⟨i, t, rfl, rfl⟩ | ⟨x, t, rfl, rfl⟩
  ·rcases BC hv with ⟨j, u, rfl, rfl⟩ | ⟨y, u, rfl, rfl⟩
   ·rw [aQ] at h; exact wpAny_eqBool_int h
   ·rw [Z1] at h; exact SeqAt.EqAt.int_str i t y u _ _ _ _ h
  ·rcases BC hv with ⟨j, u, rfl, rfl⟩ | ⟨y, u, rfl, rfl⟩
   ·rw [XW] at h; exact SeqAt.EqAt.str_int x t j u _ _ _ _ h
   ·rw [Xx] at h; exact wpAny_eqBool_str h
 «strs» := fun k x t v h => by
  rcases BC h with ⟨i, u, rfl, e⟩ | ⟨y, u, rfl, e⟩
  ·exact nomatch e
  ·injection e with e1 _
   subst e1
   cases v <;> rfl
theorem RB (prog : Program) (w : World) (i : Int) (t : Tok) : (A8 prog w).is (.inl i) (.int i t) = true := Tt i t
theorem Qn (prog : Program) (w : World) (x : Str) (t : Tok) : (A8 prog w).is (.inr x) (.str x t) = true := T6 x t
inductive V where
 | non | bl (b : Bool) | int (i : Int) | str (x : Str) | byt (b : Array UInt8) | flt (b : UInt64) | ref (a : Addr) | ty (n : String)
 deriving DecidableEq
noncomputable def RelV : V → Value → Prop
 | .non, u => u = Value.none
 | .bl b, u => u = Value.bool b
 | .int i, u => ∃ t, u = Value.int i t
 | .str x, u => ∃ t, u = Value.str x t
 | .byt b, u => ∃ t, u = Value.bytes b t
 | .flt b, u => ∃ t, u = Value.float b t
 | .ref a, u => u = Value.ref a
 | .ty n, u => u = Value.type n
noncomputable abbrev Al : List V → List Value → Prop := Paired RelV
theorem Al.length {xs : List V} {us : List Value} (r : Al xs us) : xs.length = us.length := Paired.length r
theorem Al.get : ∀ {xs : List V} {us : List Value} {i : Nat} {x : V}, Al xs us → xs[i]? = some x → ∃ u, us[i]? = some u ∧ RelV x u
 | _, _, _, _, .nil, e => by simp at e
 | _, _, 0, _, .cons r _, e => by simp at e; subst e; exact ⟨_, rfl, r⟩
 | _, _, i + 1, x, .cons _ t, e => by
  obtain ⟨u, h1, h2⟩ := Al.get (i := i) (x := x) t (by simpa using e)
  exact ⟨u, by simpa using h1, h2⟩
theorem Al.set {x : V} {u : Value} (r : RelV x u) : ∀ {xs : List V} {us : List Value} (i : Nat), Al xs us → Al (xs.set i x) (us.set i u)
 | _, _, _, .nil => .nil
 | _, _, 0, .cons _ t => .cons r t
 | _, _, i + 1, .cons q t => .cons q (Al.set r i t)
theorem Al.append : ∀ {xs ys : List V} {us ws : List Value}, Al xs us → Al ys ws → Al (xs ++ ys) (us ++ ws)
 | _, _, _, _, .nil, s => s
 | _, _, _, _, .cons r t, s => .cons r (Al.append t s)
theorem Al.take : ∀ {xs : List V} {us : List Value} (n : Nat), Al xs us → Al (xs.take n) (us.take n)
 | _, _, 0, _ => .nil
 | _, _, _ + 1, .nil => .nil
 | _, _, n + 1, .cons r t => .cons r (Al.take n t)
theorem Al.drop : ∀ {xs : List V} {us : List Value} (n : Nat), Al xs us → Al (xs.drop n) (us.drop n)
 | _, _, 0, r => r
 | _, _, _ + 1, .nil => .nil
 | _, _, n + 1, .cons _ t => Al.drop n t
noncomputable def F2 : Option V → Option Value → Prop
 | some v, some u => RelV v u
 | none, none => True
 | _, _ => False
noncomputable def KV {κ : Type} : List (κ × V) → List (κ × Value) → Prop := Paired fun (p : κ × V) (q : κ × Value) => p.1 = q.1 ∧ RelV p.2 q.2
noncomputable def kV : Key → V
 | .inl i => .int i
 | .inr x => .str x
inductive HO where
 | lst (xs : List V)
 | tup (xs : List V)
 | dK (kvs : List (Key × V)) | dT (kvs : List (List Key × V))
 | set (S : Int → Bool) (n : Nat)
 | ins (C dx : Addr) (fs : List (Str × V))
 | own (x : Addr)
 | xd (fs : List (Str × V))
 | met (f x : Addr)
 | rng (lo hi : Int)
 | frz (o : Obj) (u : HO)
 | tbl (ps : Array Value)
 | ext (φ : Heap → Prop)
noncomputable abbrev Hp := Addr → Option HO
noncomputable def upd (H : Hp) (a : Addr) (o : HO) : Hp := fun b => if b = a then some o else H b
theorem AN {H : Hp} {a : Addr} {o : HO} : upd H a o a = some o := by unfold upd; rw [if_pos rfl]
theorem AL {H : Hp} {a b : Addr} {o : HO} (h : b ≠ a) : upd H a o b = H b := by unfold upd; rw [if_neg h]
theorem BQ {H : Hp} {a b : Addr} {o u : HO} (h : H a = some o) (h' : H b = some u) (d : o ≠ u) : a ≠ b := by
 intro e; subst e; rw [h] at h'; exact d (zN h')
theorem Ah {H : Hp} {a b : Addr} {o : HO} (h : H a = some o) (h' : H b = none) : a ≠ b := by
 intro e; subst e; rw [h] at h'; cases h'
section
variable (P : Program) (w : World)
noncomputable def A3 (H : Hp) (h : Heap) (a : Addr) : HO → Prop
 | .lst xs => xs.length ≤ sizeLine ∧ ∃ (its : List Value) (n : Nat), Al xs its ∧ h.get? a = some { cls := .type "list", data := .seq its.toArray n }
 | .tup xs => xs.length ≤ sizeLine ∧ ∃ its : List Value, Al xs its ∧ IsTup h a its.toArray
 | .dK kvs => kvs.length ≤ sizeLine ∧ (a == sysModules) = false ∧ ∃ vs, KV kvs vs ∧ h.DictOf (A8 P w) a vs
 | .dT kvs => kvs.length ≤ sizeLine ∧ (a == sysModules) = false ∧ ∃ xs : List (List Key × Addr × Value),
   Paired (fun (p : List Key × V) (q : List Key × Addr × Value) => p.1 = q.1 ∧ H q.2.1 = some (.tup (p.1.map kV)) ∧ RelV p.2 q.2.2) kvs xs ∧
   ∃ o es ep, h.get? a = some o ∧ o.ExactDict ∧ o.data = .dict es ep ∧ es.toList = xs.map (entryOfKey (tupleKind (A8 P w))) ∧ (xs.map (·.1)).Nodup
 | .set S n => h.SetOf (intKind P w) a S n
 | .ins C dx fs => H dx = some (.own a) ∧ fs.length ≤ 1000 ∧ dx ≠ a ∧ h.get? a = some (W.instObj C dx) ∧
   ∃ mA, h.Ns1 dx mA ∧ (∀ f, F2 (fs.lookup f) (mA f)) ∧ PySem.Within mA (fs.map (·.1))
 | .own _ => ∃ o, h.get? a = some o
 | .xd fs => ∃ mA, h.Ns1 a mA ∧ ∀ f, F2 (fs.lookup f) (mA f)
 | .rng lo hi => ∃ t u v, h.get? a = some { cls := .type "range", data := .fields #[.int lo t, .int hi u, .int 1 v] }
 | .frz o u => h.get? a = some o ∧ A3 H h a u
 | .tbl ps => h.get? a = some { cls := .none, data := .fields ps }
 | .met f x => h.get? a = some (W.methodObj (.ref f) (.ref x))
 | .ext φ => φ h ∧ (∃ o, h.get? a = some o) ∧ ∀ h1 h2 : Heap, φ h1 → (∀ o, h1.get? a = some o → h2.get? a = some o) → φ h2
noncomputable def HOk (H : Hp) (h : Heap) : Prop := ∀ a o, H a = some o → A3 P w H h a o
end
section
variable {P : Program} {w : World} {H H' : Hp} {h h' : Heap} {a : Addr} {o : HO}
theorem A3.lt (x : A3 P w H h a o) : a < h.objs.size := by
 cases o with
 | lst xs => obtain ⟨_, _, _, _, e⟩ := x; exact zH e
 | tup xs => obtain ⟨_, _, _, p⟩ := x; exact p.lt
 | dK kvs => obtain ⟨_, _, _, _, o, _, _, e, _⟩ := x; exact zH e
 | dT kvs => obtain ⟨_, _, _, _, o, _, _, e, _⟩ := x; exact zH e
 | set S n => obtain ⟨o, _, _, _, e, _⟩ := x; exact zH e
 | ins C dx fs => obtain ⟨_, _, _, e, _⟩ := x; exact zH e
 | own y => obtain ⟨_, e⟩ := x; exact zH e
 | xd fs => obtain ⟨_, ⟨_, _, _, e, _⟩, _⟩ := x; exact zH e
 | rng lo hi => obtain ⟨_, _, _, e⟩ := x; exact zH e
 | frz ob u => obtain ⟨e, _⟩ := x; exact zH e
 | tbl ps => exact zH (show h.get? a = some _ from x)
 | met f y => exact zH (show h.get? a = some _ from x)
 | ext φ => obtain ⟨_, ⟨_, e⟩, _⟩ := x; exact zH e
theorem Paired.mapP {α β : Type} {F G : α → β → Prop} : ∀ {l₁ : List α} {l₂ : List β}, Paired F l₁ l₂ → (∀ a b, F a b → G a b) → Paired G l₁ l₂
 | _, _, .nil, _ => .nil
 | _, _, .cons r t, f => .cons (f _ _ r) (Paired.mapP t f)
theorem A3.stay (x : A3 P w H h a o) (k : ∀ b u, (b = a ∨ H b = some (.own a)) → h.get? b = some u → h'.get? b = some u)
  (ho : ∀ b, H b = some (.own a) → H' b = some (.own a)) (ht : ∀ b xs, H b = some (.tup xs) → H' b = some (.tup xs)) : A3 P w H' h' a o := by
 induction o with
 | lst xs => obtain ⟨z, its, n, r, e⟩ := x; exact ⟨z, its, n, r, k _ _ (.inl rfl) e⟩
 | tup xs => obtain ⟨z, its, r, ob, e, c⟩ := x; exact ⟨z, its, r, ob, k _ _ (.inl rfl) e, c⟩
 | dK kvs => obtain ⟨z, y, vs, r, ob, es, ep, e, c⟩ := x; exact ⟨z, y, vs, r, ob, es, ep, k _ _ (.inl rfl) e, c⟩
 | dT kvs =>
  obtain ⟨z, y, xs, r, ob, es, ep, e, c⟩ := x
  exact ⟨z, y, xs, Paired.mapP r fun p q z => ⟨z.1, ht _ _ z.2.1, z.2.2⟩, ob, es, ep, k _ _ (.inl rfl) e, c⟩
 | set S n => obtain ⟨ob, es, ep, t, e, c⟩ := x; exact ⟨ob, es, ep, t, k _ _ (.inl rfl) e, c⟩
 | ins C dx fs =>
  obtain ⟨d, z, ne, e, mA, ⟨od, es, ep, e2, c⟩, r⟩ := x
  exact ⟨ho _ d, z, ne, k _ _ (.inl rfl) e, mA, ⟨od, es, ep, k _ _ (.inr d) e2, c⟩, r⟩
 | own y => obtain ⟨ob, e⟩ := x; exact ⟨ob, k _ _ (.inl rfl) e⟩
 | xd fs => obtain ⟨mA, ⟨od, es, ep, e, c⟩, r⟩ := x; exact ⟨mA, ⟨od, es, ep, k _ _ (.inl rfl) e, c⟩, r⟩
 | rng lo hi => obtain ⟨t, u, v, e⟩ := x; exact ⟨t, u, v, k _ _ (.inl rfl) e⟩
 | frz ob u ih => obtain ⟨e, q⟩ := x; exact ⟨k _ _ (.inl rfl) e, ih q⟩
 | tbl ps =>
  have e : h.get? a = some { cls := .none, data := .fields ps } := x
  show h'.get? a = some { cls := .none, data := .fields ps }
  exact k a _ (.inl rfl) e
 | met f y =>
  have e : h.get? a = some (W.methodObj (.ref f) (.ref y)) := x
  show h'.get? a = some (W.methodObj (.ref f) (.ref y))
  exact k a _ (.inl rfl) e
 | ext φ => obtain ⟨p, ⟨o, e⟩, st⟩ := x; exact ⟨st _ _ p fun o q => k _ _ (.inl rfl) q, ⟨o, k _ _ (.inl rfl) e⟩, st⟩
theorem HOk.lt (x : HOk P w H h) (e : H a = some o) : a < h.objs.size := (x a o e).lt
theorem HOk.fresh (x : HOk P w H h) (e : h.objs.size ≤ a) : H a = none := by
 cases q : H a with
 | none => rfl
 | some u => exact absurd (zF (x.lt q) e) (zr _)
theorem HOk.kept (x : HOk P w H h) (k : ∀ b u, h.get? b = some u → h'.get? b = some u) : HOk P w H h' := fun a o e =>
 (x a o e).stay (fun b u _ q => k b u q) (fun _ q => q) fun _ _ q => q
theorem HOk.laid (x : HOk P w H h) (k : ∀ b u, h.get? b = some u → h'.get? b = some u) (hp : h.objs.size ≤ a) (new : A3 P w (upd H a o) h' a o) : HOk P w (upd H a o) h' := fun b u e => by
 have hn := x.fresh hp
 by_cases hb : b = a
 ·subst hb; rw [AN] at e; cases e; exact new
 ·rw [AL hb] at e
  exact (x b u e).stay (fun c v _ q => k c v q) (fun c q => by rw [AL (Ah q hn)]; exact q) fun c xs q => by rw [AL (Ah q hn)]; exact q
end
noncomputable def Rd (H : Hp) (a : Addr) (u : HO) : Prop := H a = some u ∨ ∃ o, H a = some (.frz o u)
theorem Rd.ok {P : Program} {w : World} {H : Hp} {h : Heap} {a : Addr} {u : HO} (r : Rd H a u) (x : HOk P w H h) : A3 P w H h a u := by
 rcases r with r | ⟨o, r⟩
 ·exact x a u r
 ·obtain ⟨_, q⟩ := x a _ r
  exact q
noncomputable def Mut : Option HO → Prop
 | some (.lst _) => True
 | some (.dK _) => True
 | some (.dT _) => True
 | some (.set _ _) => True
 | some (.ins _ _ _) => True
 | some (.ext _) => True
 | _ => False
section
variable {P : Program} {w : World} {H : Hp} {h h' : Heap} {x e : Addr} {o' : HO}
theorem HOk.write (ok : HOk P w H h) (mu : Mut (H x)) (he : e = x ∨ H e = some (.own x)) (k : ∀ b u, b ≠ e → h.get? b = some u → h'.get? b = some u) (heo : ∃ u, h'.get? e = some u)
  (new : A3 P w (upd H x o') h' x o') : HOk P w (upd H x o') h' := fun b u q => by
 have nown : ∀ c y, H c = some (.own y) → c ≠ x := fun c y r z => by subst z; rw [r] at mu; exact mu
 have ntup : ∀ c xs, H c = some (.tup xs) → c ≠ x := fun c xs r z => by subst z; rw [r] at mu; exact mu
 by_cases hb : b = x
 ·subst hb; rw [AN] at q; cases q; exact new
 ·rw [AL hb] at q
  by_cases hbe : b = e
  ·have q' : H b = some (.own x) := by
    rcases he with z | z
    ·exact absurd (hbe.trans z) hb
    ·rw [hbe]; exact z
   rw [q] at q'; cases q'
   obtain ⟨v, hv⟩ := heo
   exact ⟨v, by rw [hbe]; exact hv⟩
  ·refine (ok b u q).stay (fun c v hc r => k c v ?_ r) (fun c r => by rw [AL (nown c b r)]; exact r) fun c xs r => by rw [AL (ntup c xs r)]; exact r
   rcases hc with rfl | hc
   ·exact hbe
   ·rintro rfl
    rcases he with z | z
    ·exact nown c b hc z
    ·rw [hc] at z; cases z; exact hb rfl
end
structure Un (fs ex : List Addr) (H H' : Hp) (h h' : Heap) : Prop where
 keep : ∀ b o, h.get? b = some o → H b = none → b ∉ fs → b ∉ ex → h'.get? b = some o
 slot : ∀ b o, h.get? b = some o → H b = none → b ∈ fs → b ∉ ex → ∃ sl, h'.get? b = some { o with slots := sl }
 free : ∀ b o, h.get? b = some o → H b = none → b ∉ ex → H' b = none
 there : ∀ b o, h.get? b = some o → b ∉ ex → ∃ o', h'.get? b = some o'
 tups : ∀ b xs, H b = some (.tup xs) → H' b = some (.tup xs)
 frzs : ∀ b o u, H b = some (.frz o u) → H' b = some (.frz o u)
 tbls : ∀ b ps, H b = some (.tbl ps) → ∃ more, H' b = some (.tbl (ps ++ more))
section
variable {fs fs' ex ex' : List Addr} {H H1 H2 : Hp} {h h1 h2 h' : Heap} {a x e : Addr} {o : HO}
theorem Un.any (u : Un fs ex H H1 h h1) {b : Addr} {ob : Obj} (q : h.get? b = some ob) (n : H b = none) (hx : b ∉ ex) : ∃ sl, h1.get? b = some { ob with slots := sl } := by
 by_cases hb : b ∈ fs
 ·exact u.slot b ob q n hb hx
 ·exact ⟨ob.slots, u.keep b ob q n hb hx⟩
theorem Un.kept (k : ∀ b u, h.get? b = some u → h'.get? b = some u) : Un fs ex H H h h' :=
 ⟨fun b ob q _ _ _ => k b ob q, fun b ob q _ _ _ => ⟨ob.slots, k b ob q⟩, fun _ _ _ n _ => n, fun b ob q _ => ⟨ob, k b ob q⟩, fun _ _ q => q, fun _ _ _ q => q, fun _ ps q => ⟨#[], by rw [q]; simp⟩⟩
theorem Un.refl : Un fs ex H H h h := Un.kept fun _ _ q => q
theorem Un.laid (k : ∀ b u, h.get? b = some u → h'.get? b = some u) (hp : h.objs.size ≤ a) (hn : H a = none) : Un fs ex H (upd H a o) h h' where
 keep := fun b u q _ _ _ => k b u q
 slot := fun b u q _ _ _ => ⟨u.slots, k b u q⟩
 free := fun b u q n _ => by rw [AL (zX (zF (zH q) hp))]; exact n
 there := fun b u q _ => ⟨u, k b u q⟩
 tups := fun b xs q => by rw [AL (Ah q hn)]; exact q
 frzs := fun b u xs q => by rw [AL (Ah q hn)]; exact q
 tbls := fun b ps q => ⟨#[], by rw [AL (Ah q hn), q]; simp⟩
theorem Un.write (mu : Mut (H x)) (he : e = x ∨ H e = some (.own x)) (k : ∀ b u, b ≠ e → h.get? b = some u → h'.get? b = some u) (heo : ∃ u, h'.get? e = some u) : Un fs ex H (upd H x o) h h' := by
 have hx : ∀ b, H b = none → b ≠ x := fun b n z => by subst z; rw [n] at mu; exact mu
 have hb : ∀ b, H b = none → b ≠ e := fun b n z => by
  subst z
  rcases he with r | r
  ·exact hx b n r
  ·rw [n] at r; cases r
 have hm : ∀ b u, H b = some u → ¬ Mut (some u) → b ≠ x := fun b u q nm z => by subst z; rw [q] at mu; exact nm mu
 refine ⟨fun b u q n _ _ => k b u (hb b n) q, fun b u q n _ _ => ⟨u.slots, k b u (hb b n) q⟩, fun b u q n _ => by rw [AL (hx b n)]; exact n, fun b u q _ => ?_,
  fun b xs q => by rw [AL (hm b _ q fun z => z)]; exact q, fun b u xs q => by rw [AL (hm b _ q fun z => z)]; exact q, fun b ps q => ⟨#[], by rw [AL (hm b _ q fun z => z), q]; simp⟩⟩
 by_cases hbe : b = e
 ·subst hbe; exact heo
 ·exact ⟨u, k b u hbe q⟩
end
noncomputable def trk (h : Heap) (H : Hp) : List Addr := (List.range h.objs.size).filter fun a => (H a).isSome
noncomputable def QX (h : Heap) (H : Hp) : Heap := W.hideAll h (trk h H)
theorem T5 (h : Heap) (H : Hp) : (QX h H).objs.size = h.objs.size := W.hideAll_size _ _
theorem Vo {h : Heap} {H : Hp} {b : Addr} {o : Obj} (e : h.get? b = some o) (n : H b = none) : (QX h H).get? b = some o :=
 W.hideAll_get _ e fun hm => by
  have q : (H b).isSome = true := (qE.mp hm).2
  rw [n] at q; simp at q
theorem Wn {h : Heap} {H : Hp} {b : Addr} {o : Obj} (e : (QX h H).get? b = some o) : h.get? b = some o ∧ H b = none := by
 have e' : h.get? b = some o := W.of_hideAll (trk h H) e
 refine ⟨e', ?_⟩
 cases q : H b with
 | none => rfl
 | some x =>
  have hm : b ∈ trk h H := qE.mpr ⟨List.mem_range.mpr (zH e'), by simp [q]⟩
  have z : (QX h H).get? b = none := W.hideAll_none (trk h H) hm
  rw [z] at e; cases e
structure Mod (K : W.Frag) (mg : Str → Option Value) (base : Heap) : Prop where
 kin : K.In base
 glob : base.Ns mainGlobals mg
 blt : ∃ mb, base.Ns builtinsNs mb ∧ ∀ x : Str, x ≠ "__name__" → mb x = bootBuiltins x
 nolimit : base.NoLimit
structure Cx where
 prog : Program
 w : World
 K : W.Frag
 mg : Str → Option Value
 base : Heap
 A : Around
 N : List Str
 s₀ : Shared
 H₀ : Hp
 env : Env
 outer : List Env
 stack : List Env
 ex : List Addr
 fn : Str → Bool
 calm : Bool
 pn : List (Addr × Obj)
 xe : Value → Shared → Prop
noncomputable def frs (l : List Env) : List Addr := l.filterMap (·.frame)
noncomputable abbrev Cx.fs (X : Cx) : List Addr := frs X.outer
noncomputable def Vis (sc : Scope) (x : Str) : Prop := sc.names.lookup x = some .local ∨ sc.names.lookup x = some .cell ∨ sc.names.lookup x = some .free
noncomputable def Loc (sc : Scope) (x : Str) : Prop := sc.names.lookup x = some .local ∨ sc.names.lookup x = some .cell
noncomputable def Look (env : Env) (h : Heap) (m : Str → Option Value) (x : Str) (u : Value) : Prop :=
 (env.kindOf x = some .local ∧ m x = some u) ∨ ((env.kindOf x = some .cell ∨ env.kindOf x = some .free) ∧ ∃ c, env.cells.lookup x = some c ∧ h.IsCell c (some u))
structure Cx.Ok (X : Cx) : Prop where
 mod : Mod X.K X.mg X.base
 kind : X.env.scope.kind = .function
 glob : X.env.globals = mainGlobals
 blt : X.env.builtins = builtinsNs
 above : X.s₀.heap.objs.size ≤ X.env.locals
 inj : ∀ x y c, X.env.cells.lookup x = some c → X.env.cells.lookup y = some c → x = y
 has : ∀ x, (X.env.kindOf x = some .cell ∨ X.env.kindOf x = some .free) → ∃ c, X.env.cells.lookup x = some c
 cab : ∀ x c, X.fn x = true → X.env.cells.lookup x = some c → X.s₀.heap.objs.size ≤ c
 hd : X.calm = true → X.A.handled = none
 frames : X.A.frames = some X.stack
 stk : X.stack = X.outer ∨ (X.stack = X.env :: X.outer ∧ X.env.frame = some X.env.locals)
 exf : ∀ b ∈ X.ex, b ≠ X.env.locals ∧ ∀ x c, X.env.cells.lookup x = some c → c ≠ b
 bs : ∀ b o, X.base.get? b = some o → X.s₀.heap.get? b = some o ∧ X.H₀ b = none
 bsz : X.base.objs.size ≤ X.s₀.heap.objs.size
 noex : ∀ b o, X.base.get? b = some o → b ∉ X.ex
 exfs : ∀ b ∈ X.ex, b ∉ X.fs
 funs : X.s₀.heap.FunFrames X.base X.outer
 frf : ∀ b ∈ X.fs, X.H₀ b = none
structure Inv (X : Cx) (pins : List (Addr × Obj)) (σ : List (Option V)) (H : Hp) (s : Shared) : Prop where
 ok : X.Ok
 os : s.os = X.s₀.os
 bare : AllBare s.gens
 base : Un X.fs X.ex X.H₀ H X.s₀.heap s.heap
 loc : ∃ m, s.heap.Ns X.env.locals m ∧ ∀ (i : Nat) (x : Str) (v : V), X.N[i]? = some x → σ[i]? = some (some v) → Vis X.env.scope x → ∃ u, RelV v u ∧ Look X.env s.heap m x u
 cell : ∀ x c, X.env.cells.lookup x = some c → ∃ v, s.heap.IsCell c v
 free : H X.env.locals = none
 freeC : ∀ x c, X.env.cells.lookup x = some c → H c = none
 pin : ∀ p ∈ X.pn ++ pins, s.heap.get? p.1 = some p.2 ∧ H p.1 = none ∧ p.1 ≠ X.env.locals ∧ p.1 ∉ X.fs ∧ ∀ v, p.2.data ≠ .cell v
 hok : HOk X.prog X.w H s.heap
 len : σ.length = X.N.length
section
variable {X : Cx} {pins : List (Addr × Obj)} {σ : List (Option V)} {H H' : Hp} {s : Shared} {h' : Heap}
theorem Cx.Ok.nofr (ok : X.Ok) {b : Addr} {o : Obj} (e : X.base.get? b = some o) : b ∉ X.fs := fun hb => by
 have := (ok.funs.mem hb).1
 rw [e] at this; cases this
theorem Inv.bs (I : Inv X pins σ H s) : ∀ b o, X.base.get? b = some o → s.heap.get? b = some o ∧ H b = none := fun b o e =>
 ⟨I.base.keep b o (I.ok.bs b o e).1 (I.ok.bs b o e).2 (I.ok.nofr e) (I.ok.noex b o e), I.base.free b o (I.ok.bs b o e).1 (I.ok.bs b o e).2 (I.ok.noex b o e)⟩
theorem Inv.bk (I : Inv X pins σ H s) : ∀ b o, X.base.get? b = some o → s.heap.get? b = some o := fun b o e => (I.bs b o e).1
theorem Inv.mod (I : Inv X pins σ H s) : Mod X.K X.mg X.base := I.ok.mod
theorem Inv.kIn (I : Inv X pins σ H s) : X.K.In s.heap := I.ok.mod.kin.keeps I.bk
theorem Inv.lt (I : Inv X pins σ H s) : X.env.locals < s.heap.objs.size := let ⟨_, hn, _⟩ := I.loc; hn.lt
theorem Inv.sz (I : Inv X pins σ H s) : X.s₀.heap.objs.size ≤ s.heap.objs.size := zT I.ok.above (Nat.le_of_lt I.lt)
theorem Inv.nofs (I : Inv X pins σ H s) {a : Addr} (h : s.heap.objs.size ≤ a) : a ∉ X.fs := fun hb => by
 obtain ⟨_, o, ho, _⟩ := I.ok.funs.mem hb
 exact absurd (zF (zH ho) (zT I.sz h)) (zr _)
theorem Inv.cne (I : Inv X pins σ H s) : ∀ x c, X.env.cells.lookup x = some c → c ≠ X.env.locals := fun x c e z => by
 obtain ⟨v, o, ho, hd⟩ := I.cell x c e
 obtain ⟨m, ⟨o', es, ep, ho', hd', _⟩, _⟩ := I.loc
 rw [z, ho'] at ho; cases ho; rw [hd'] at hd; cases hd
theorem Inv.funs (I : Inv X pins σ H s) : s.heap.FunFrames X.base X.outer := by
 have all : ∀ (l : List Env), (∀ b ∈ frs l, b ∈ X.fs) → X.s₀.heap.FunFrames X.base l → s.heap.FunFrames X.base l := by
  intro l
  induction l with
  | nil => intro _ _; trivial
  | cons env r ih =>
   intro hs hl
   obtain ⟨hk, ⟨L, o, hf, hn, ho, hd⟩, hr⟩ := hl
   have hL : L ∈ X.fs := hs L (by unfold frs; rw [qD, hf]; exact zR)
   obtain ⟨sl, e⟩ := I.base.slot L o ho (I.ok.frf L hL) hL fun z => I.ok.exfs L z hL
   exact ⟨hk, ⟨L, _, hf, hn, e, hd⟩, ih (fun b hb => hs b (by unfold frs; rw [qD, hf]; exact zD _ hb)) hr⟩
 exact all X.outer (fun _ hb => hb) I.ok.funs
theorem Inv.stack (I : Inv X pins σ H s) : s.heap.FunFrames X.base X.stack := by
 rcases I.ok.stk with e | ⟨e, hf⟩
 ·rw [e]; exact I.funs
 ·rw [e]
  obtain ⟨m, hn, _⟩ := I.loc
  refine .cons (by rw [I.ok.kind]; decide) hf hn ?_ I.funs
  exact Heap.get?_none_of_le (zT I.ok.bsz I.ok.above)
theorem Inv.stkSub (I : Inv X pins σ H s) : ∀ b ∈ frs X.stack, b ∈ X.env.locals :: X.fs := fun b hb => by
 rcases I.ok.stk with e | ⟨e, hf⟩
 ·rw [e] at hb; exact zD _ hb
 ·rw [e] at hb
  unfold frs at hb
  rw [qD, hf] at hb
  exact hb
theorem Inv.stkFree (I : Inv X pins σ H s) : ∀ b ∈ frs X.stack, H b = none := fun b hb => by
 rcases zL.mp (I.stkSub b hb) with e | hb
 ·rw [e]; exact I.free
 ·obtain ⟨_, o, ho, _⟩ := I.ok.funs.mem hb
  exact I.base.free b o ho (I.ok.frf b hb) fun z => I.ok.exfs b z hb
theorem Inv.step {g' : Array GenState} {t' : Nat} {d' : Drawn} {ch : List Addr} (I : Inv X pins σ H s)
  (hch : ∀ b ∈ ch, (b ∈ X.ex ∨ X.s₀.heap.objs.size ≤ b) ∧ b ≠ X.env.locals ∧ (∀ x c, X.env.cells.lookup x = some c → c ≠ b) ∧ ∀ p ∈ X.pn ++ pins, p.1 ≠ b)
  (keep : ∀ b o, b ≠ X.env.locals → b ∉ X.fs → b ∉ ch → s.heap.get? b = some o → H b = none → h'.get? b = some o)
  (slot : ∀ b o, b ≠ X.env.locals → b ∈ X.fs → b ∉ ch → s.heap.get? b = some o → H b = none → ∃ sl, h'.get? b = some { o with slots := sl }) (free : ∀ b o, b ∉ ch → s.heap.get? b = some o → H b = none → H' b = none)
  (there : ∀ b o, b ∉ ch → s.heap.get? b = some o → ∃ o', h'.get? b = some o')
  (tups : ∀ b xs, H b = some (.tup xs) → H' b = some (.tup xs)) (frzs : ∀ b o u, H b = some (.frz o u) → H' b = some (.frz o u)) (tbls : ∀ b ps, H b = some (.tbl ps) → ∃ more, H' b = some (.tbl (ps ++ more)))
  (ns : ∀ m, s.heap.Ns X.env.locals m → h'.Ns X.env.locals m) (hok : HOk X.prog X.w H' h') (hg : AllBare g') :
  Inv X pins σ H' { s with heap := h', gens := g', drawn := d', toks := t' } := by
 have neL : ∀ b o, X.s₀.heap.get? b = some o → b ≠ X.env.locals := fun b o e => zX (zF (zH e) I.ok.above)
 have neC : ∀ b o, X.s₀.heap.get? b = some o → b ∉ X.ex → b ∉ ch := fun b o e hx hb => by
  rcases (hch b hb).1 with z | z
  ·exact hx z
  ·exact absurd (zF (zH e) z) (zr _)
 have cellK : ∀ x c, X.env.cells.lookup x = some c → ∀ v, s.heap.IsCell c v → h'.IsCell c v := fun x c e v ⟨o, ho, hd⟩ => by
  have nch : c ∉ ch := fun z => (hch c z).2.2.1 x c e rfl
  by_cases hc : c ∈ X.fs
  ·obtain ⟨sl, q⟩ := slot c o (I.cne x c e) hc nch ho (I.freeC x c e)
   exact ⟨_, q, hd⟩
  ·exact ⟨o, keep c o (I.cne x c e) hc nch ho (I.freeC x c e), hd⟩
 refine ⟨I.ok, I.os, hg, ⟨fun b o e n hb hx => ?_, fun b o e n hb hx => ?_, fun b o e n hx => ?_, fun b o e hx => ?_, fun b xs e => tups b xs (I.base.tups b xs e), fun b o xs e => frzs b o xs (I.base.frzs b o xs e), fun b ps e => ?_⟩, ?_, fun x c e => ?_, ?_, fun x c e => ?_, fun p hp => ?_, hok, I.len⟩
 ·exact keep b o (neL b o e) hb (neC b o e hx) (I.base.keep b o e n hb hx) (I.base.free b o e n hx)
 ·obtain ⟨sl, e1⟩ := I.base.slot b o e n hb hx
  obtain ⟨sl', e2⟩ := slot b _ (neL b o e) hb (neC b o e hx) e1 (I.base.free b o e n hx)
  exact ⟨sl', e2⟩
 ·obtain ⟨o', e1⟩ := I.base.there b o e hx
  exact free b o' (neC b o e hx) e1 (I.base.free b o e n hx)
 ·obtain ⟨o', e1⟩ := I.base.there b o e hx
  exact there b o' (neC b o e hx) e1
 ·obtain ⟨m1, e1⟩ := I.base.tbls b ps e
  obtain ⟨m2, e2⟩ := tbls b _ e1
  exact ⟨m1 ++ m2, by rw [e2, Array.append_assoc]⟩
 ·obtain ⟨m, hn, hl⟩ := I.loc
  refine ⟨m, ns m hn, fun i x v e1 e2 e3 => ?_⟩
  obtain ⟨u, r, l⟩ := hl i x v e1 e2 e3
  refine ⟨u, r, ?_⟩
  rcases l with l | ⟨k, c, e, z⟩
  ·exact .inl l
  ·exact .inr ⟨k, c, e, cellK x c e _ z⟩
 ·obtain ⟨v, z⟩ := I.cell x c e
  exact ⟨v, cellK x c e v z⟩
 ·obtain ⟨m, ⟨o, _, _, ho, _⟩, _⟩ := I.loc
  exact free _ o (fun z => (hch _ z).2.1 rfl) ho I.free
 ·obtain ⟨v, o, ho, hd⟩ := I.cell x c e
  exact free c o (fun z => (hch c z).2.2.1 x c e rfl) ho (I.freeC x c e)
 ·obtain ⟨e, n, ne, nf, d⟩ := I.pin p hp
  have nch : p.1 ∉ ch := fun z => (hch p.1 z).2.2.2 p hp rfl
  exact ⟨keep p.1 p.2 ne nf nch e n, free p.1 p.2 nch e n, ne, nf, d⟩
theorem Inv.un {t' : Nat} (I : Inv X pins σ H s) (u : Un X.fs [] H H' s.heap h') (hok : HOk X.prog X.w H' h') : Inv X pins σ H' { s with heap := h', toks := t' } := by
 obtain ⟨m, ⟨o, es, ep, ho, r⟩, _⟩ := id I.loc
 obtain ⟨sl, hL⟩ := u.any ho I.free (by simp)
 exact I.step (g' := s.gens) (d' := s.drawn) (ch := []) (fun _ z => nomatch z) (fun b o _ hb _ e n => u.keep b o e n hb (by simp)) (fun b o _ hb _ e n => u.slot b o e n hb (by simp)) (fun b o _ e n => u.free b o e n (by simp)) (fun b o _ e => u.there b o e (by simp)) u.tups u.frzs u.tbls (fun m' hm => by
  obtain ⟨o', es', ep', ho', r'⟩ := hm
  rw [ho] at ho'; cases ho'
  exact ⟨_, es', ep', hL, r'⟩) hok I.bare
theorem Inv.call {g' : Array GenState} {t' : Nat} {d' : Drawn} {ch : List Addr} (I : Inv X pins σ H s) (u : Un (frs X.stack) ch H H' s.heap h') (hok : HOk X.prog X.w H' h') (hg : AllBare g')
  (hch : ∀ b ∈ ch, (b ∈ X.ex ∨ X.s₀.heap.objs.size ≤ b) ∧ b ≠ X.env.locals ∧ (∀ x c, X.env.cells.lookup x = some c → c ≠ b) ∧ ∀ p ∈ X.pn ++ pins, p.1 ≠ b) :
  Inv X pins σ H' { s with heap := h', gens := g', drawn := d', toks := t' } := by
 obtain ⟨m, ⟨o, es, ep, ho, r⟩, _⟩ := id I.loc
 obtain ⟨sl, hL⟩ := u.any ho I.free fun z => (hch _ z).2.1 rfl
 exact I.step (ch := ch) hch (fun b o hL hb hc e n => u.keep b o e n (fun z => (zL.mp (I.stkSub b z)).elim hL hb) hc) (fun b o _ _ hc e n => u.any e n hc) (fun b o hc e n => u.free b o e n hc) (fun b o hc e => u.there b o e hc) u.tups u.frzs u.tbls (fun m' hm => by
  obtain ⟨o', es', ep', ho', r'⟩ := hm
  rw [ho] at ho'; cases ho'
  exact ⟨_, es', ep', hL, r'⟩) hok hg
theorem Inv.turned {t' : Nat} {it : Addr} (I : Inv X pins σ H s) (k : ∀ b o, b ≠ it → s.heap.get? b = some o → h'.get? b = some o) (hn : H it = none) (hL : it ≠ X.env.locals)
  (h1 : it ∈ X.ex ∨ X.s₀.heap.objs.size ≤ it) (h2 : ∀ x c, X.env.cells.lookup x = some c → c ≠ it) (h3 : ∀ p ∈ X.pn ++ pins, p.1 ≠ it) : Inv X pins σ H { s with heap := h', toks := t' } := by
 have nit : ∀ b u, H b = some u → b ≠ it := fun b u e z => by rw [z, hn] at e; cases e
 refine I.step (g' := s.gens) (d' := s.drawn) (ch := [it]) (fun b hb => ?_) (fun b o _ _ hc e _ => k b o (fun z => hc (by simp [z])) e) (fun b o _ _ hc e _ => ⟨o.slots, k b o (fun z => hc (by simp [z])) e⟩) (fun _ _ _ _ n => n)
  (fun b o hc e => ⟨o, k b o (fun z => hc (by simp [z])) e⟩) (fun _ _ e => e) (fun _ _ _ e => e) (fun b ps e => ⟨#[], by rw [e]; simp⟩) (fun m hm => ?_) (fun b u e => ?_) I.bare
 ·have e : b = it := by simpa using hb
  subst e
  exact ⟨h1, hL, h2, h3⟩
 ·obtain ⟨o, es, ep, ho, r⟩ := hm
  exact ⟨o, es, ep, k _ o (Ne.symm hL) ho, r⟩
 ·refine (I.hok b u e).stay (fun c v hc q => k c v ?_ q) (fun _ q => q) fun _ _ q => q
  rcases hc with z | z
  ·rw [z]; exact nit b u e
  ·exact nit c _ z
theorem Inv.tok (I : Inv X pins σ H s) (t : Nat) : Inv X pins σ H { s with toks := t } := I.un (h' := s.heap) (t' := t) Un.refl I.hok
theorem Inv.kept {t' : Nat} (I : Inv X pins σ H s) (k : ∀ b u, s.heap.get? b = some u → h'.get? b = some u) : Inv X pins σ H { s with heap := h', toks := t' } := I.un (Un.kept k) (I.hok.kept k)
theorem Inv.laid {a : Addr} {o : HO} {t' : Nat} (I : Inv X pins σ H s) (k : ∀ b u, s.heap.get? b = some u → h'.get? b = some u) (hp : s.heap.objs.size ≤ a) (new : A3 X.prog X.w (upd H a o) h' a o) :
  Inv X pins σ (upd H a o) { s with heap := h', toks := t' } := I.un (Un.laid k hp (I.hok.fresh hp)) (I.hok.laid k hp new)
theorem Inv.write {x e : Addr} {o : HO} {t' : Nat} (I : Inv X pins σ H s) (mu : Mut (H x)) (he : e = x ∨ H e = some (.own x)) (k : ∀ b u, b ≠ e → s.heap.get? b = some u → h'.get? b = some u) (heo : ∃ u, h'.get? e = some u)
  (new : A3 X.prog X.w (upd H x o) h' x o) : Inv X pins σ (upd H x o) { s with heap := h', toks := t' } := I.un (Un.write mu he k heo) (I.hok.write mu he k heo new)
theorem Inv.pins_of {pins' : List (Addr × Obj)} (I : Inv X pins σ H s) (h : ∀ p ∈ pins', s.heap.get? p.1 = some p.2 ∧ H p.1 = none ∧ p.1 ≠ X.env.locals ∧ p.1 ∉ X.fs ∧ ∀ v, p.2.data ≠ .cell v) : Inv X pins' σ H s :=
 ⟨I.ok, I.os, I.bare, I.base, I.loc, I.cell, I.free, I.freeC, fun p hp => (zb.mp hp).elim (fun z => I.pin p (zz _ z)) (h p), I.hok, I.len⟩
theorem RC {N : List Str} (hN : N.Nodup) {i j : Nat} {x : Str} (a : N[i]? = some x) (b : N[j]? = some x) : i = j := by
 obtain ⟨h1, e1⟩ := zA.mp a
 obtain ⟨h2, e2⟩ := zA.mp b
 exact (List.getElem_inj hN).mp (e1.trans e2.symm)
theorem O7 {M : Model} {A : Around} {E : Value → Shared → Prop} {i : Nat} {x : Str} {v : V} {u : Value} {Q : Unit → Shared → Prop} (I : Inv X pins σ H s) (hN : X.N.Nodup) (hi : X.N[i]? = some x) (hx : Loc X.env.scope x) (r : RelV v u)
  (h : ∀ s', Inv X pins (σ.set i (some v)) H s' → (∃ a, Heap.SameBut a s.heap s'.heap ∧ (a = X.env.locals ∨ X.env.cells.lookup x = some a)) → Q () s') (hf : X.fn x = true ∨ X.env.scope.names.lookup x = some .local := by first | exact .inl rfl | exact .inr rfl | assumption) : wpAny M A (storeName X.env x u) Q E s := by
 obtain ⟨m, hn, hl⟩ := id I.loc
 have hcls : (X.env.scope.kind == .class || (X.env.scope.kind == .module && X.env.locals != X.env.globals)) = false := by rw [I.ok.kind]; rfl
 have hiσ : i < σ.length := by rw [I.len]; exact (zA.mp hi).1
 have cne := I.cne
 have tracked : ∀ {a : Addr} {h' : Heap}, (∃ o, s.heap.get? a = some o ∧ H a = none) → Heap.SameBut a s.heap h' → HOk X.prog X.w H h' := fun {a h'} ha hs b ob e => by
  obtain ⟨_, _, hfree⟩ := ha
  refine (I.hok b ob e).stay (fun c w' hc q => (hs.2 c ?_).trans q) (fun _ q => q) fun _ _ q => q
  rintro rfl
  rcases hc with rfl | hc
  ·rw [hfree] at e; cases e
  ·rw [hfree] at hc; cases hc
 rcases hx with hk | hk
 ·refine wpAny_storeName_local hk hn (fun h' hn' hs => ?_) hcls
  obtain ⟨oL, _, _, hoL, _⟩ := id hn
  refine h _ ⟨I.ok, I.os, I.bare, ⟨fun b o e n hb hx => ?_, fun b o e n hb hx => ?_, I.base.free, fun b o e hx => ?_, I.base.tups, I.base.frzs, I.base.tbls⟩, ⟨_, hn', fun j y v' e1 e2 e3 => ?_⟩, fun y c e => ?_, I.free, I.freeC, fun p hp => ?_, tracked ⟨oL, hoL, I.free⟩ hs, by simpa using I.len⟩ ⟨_, hs, .inl rfl⟩
  ·exact (hs.2 b (zX (zF (zH e) I.ok.above))).trans (I.base.keep b o e n hb hx)
  ·obtain ⟨sl, e1⟩ := I.base.slot b o e n hb hx
   exact ⟨sl, (hs.2 b (zX (zF (zH e) I.ok.above))).trans e1⟩
  ·obtain ⟨o', e1⟩ := I.base.there b o e hx
   exact ⟨o', (hs.2 b (zX (zF (zH e) I.ok.above))).trans e1⟩
  ·by_cases hj : j = i
   ·subst hj
    rw [hi] at e1; cases e1
    rw [List.getElem?_set_self hiσ] at e2
    cases e2
    exact ⟨u, r, .inl ⟨hk, by simp⟩⟩
   ·rw [List.getElem?_set_ne (Ne.symm hj)] at e2
    obtain ⟨u', r', q⟩ := hl j y v' e1 e2 e3
    refine ⟨u', r', ?_⟩
    rcases q with ⟨k, e⟩ | ⟨k, c, e, z⟩
    ·refine .inl ⟨k, ?_⟩
     have : y ≠ x := fun e => hj (RC hN e1 (e ▸ hi))
     simp [this, e]
    ·exact .inr ⟨k, c, e, z.sameBut hs (cne y c e)⟩
  ·obtain ⟨w', z⟩ := I.cell y c e
   exact ⟨w', z.sameBut hs (cne y c e)⟩
  ·obtain ⟨e, n, ne, nf, d⟩ := I.pin p hp
   exact ⟨(hs.2 p.1 ne).trans e, n, ne, nf, d⟩
 ·have hfn : X.fn x = true := by
   rcases hf with z | z
   ·exact z
   ·rw [z] at hk; cases hk
  obtain ⟨c, hc⟩ := I.ok.has x (.inl hk)
  obtain ⟨w', z⟩ := I.cell x c hc
  refine wpAny_storeName_cell I.ok.kind hk hc z (fun h' hc' hs => ?_)
  obtain ⟨oc, hoc, hocd⟩ := id z
  refine h { s with heap := h' } ⟨I.ok, I.os, I.bare, ⟨fun b o e n hb hx => ?_, fun b o e n hb hx => ?_, I.base.free, fun b o e hx => ?_, I.base.tups, I.base.frzs, I.base.tbls⟩, ⟨m, hn.sameBut hs (Ne.symm (cne x c hc)), fun j y v' e1 e2 e3 => ?_⟩, fun y c' e => ?_, I.free, I.freeC, fun p hp => ?_, tracked ⟨oc, hoc, I.freeC x c hc⟩ hs, by simpa using I.len⟩ ⟨c, hs, .inr hc⟩
  ·exact (hs.2 b (zX (zF (zH e) (I.ok.cab x c hfn hc)))).trans (I.base.keep b o e n hb hx)
  ·obtain ⟨sl, e1⟩ := I.base.slot b o e n hb hx
   exact ⟨sl, (hs.2 b (zX (zF (zH e) (I.ok.cab x c hfn hc)))).trans e1⟩
  ·obtain ⟨o', e1⟩ := I.base.there b o e hx
   exact ⟨o', (hs.2 b (zX (zF (zH e) (I.ok.cab x c hfn hc)))).trans e1⟩
  ·by_cases hj : j = i
   ·subst hj
    rw [hi] at e1; cases e1
    rw [List.getElem?_set_self hiσ] at e2
    cases e2
    exact ⟨u, r, .inr ⟨.inl hk, c, hc, hc'⟩⟩
   ·rw [List.getElem?_set_ne (Ne.symm hj)] at e2
    obtain ⟨u', r', q⟩ := hl j y v' e1 e2 e3
    refine ⟨u', r', ?_⟩
    rcases q with q | ⟨k, c', e, z'⟩
    ·exact .inl q
    ·refine .inr ⟨k, c', e, z'.sameBut hs ?_⟩
     rintro rfl
     exact hj (RC hN e1 (I.ok.inj _ _ _ e hc ▸ hi))
  ·by_cases hcc : c' = c
   ·subst hcc; exact ⟨_, hc'⟩
   ·obtain ⟨w2, z2⟩ := I.cell y c' e
    exact ⟨w2, z2.sameBut hs hcc⟩
  ·obtain ⟨e, n, ne, nf, d⟩ := I.pin p hp
   refine ⟨(hs.2 p.1 ?_).trans e, n, ne, nf, d⟩
   intro q
   rw [q, hoc] at e
   have q' : oc = p.2 := zN e
   exact d w' (by rw [← q']; exact hocd)
theorem Qy {M : Model} {A : Around} {E : Value → Shared → Prop} {i : Nat} {x : Str} {v : V} {u : Value} {Q : Unit → Shared → Prop} (I : Inv X pins σ H s) (hN : X.N.Nodup) (hi : X.N[i]? = some x) (hx : Loc X.env.scope x) (r : RelV v u)
  (h : ∀ s', Inv X pins (σ.set i (some v)) H s' → Q () s') (hf : X.fn x = true ∨ X.env.scope.names.lookup x = some .local := by first | exact .inl rfl | exact .inr rfl | assumption) : wpAny M A (storeName X.env x u) Q E s :=
 O7 I hN hi hx r (fun s' I' _ => h s' I') hf
theorem Inv.call' {s' : Shared} {ch : List Addr} (I : Inv X pins σ H s) (ho : s'.os = s.os) (u : Un (frs X.stack) ch H H' s.heap s'.heap) (hok : HOk X.prog X.w H' s'.heap) (hg : AllBare s'.gens)
  (hch : ∀ b ∈ ch, (b ∈ X.ex ∨ X.s₀.heap.objs.size ≤ b) ∧ b ≠ X.env.locals ∧ (∀ x c, X.env.cells.lookup x = some c → c ≠ b) ∧ ∀ p ∈ X.pn ++ pins, p.1 ≠ b) : Inv X pins σ H' s' := by
 obtain ⟨h', g', d', t', o'⟩ := s'
 have e : o' = s.os := ho
 subst e
 exact I.call (g' := g') (t' := t') (d' := d') u hok hg hch
end
noncomputable abbrev XK := Value → Option Addr → Hp → Prop
noncomputable abbrev St := List (Option V)
noncomputable abbrev VK := V → Hp → Prop
noncomputable abbrev TE := St → Hp → VK → Prop
noncomputable abbrev TT := St → Hp → (Bool → Hp → Prop) → Prop
noncomputable abbrev TA := St → Hp → (List V → Hp → Prop) → Prop
structure Gn where
 nx : St → Hp → Prop
 rt : VK
 bk : St → Hp → Prop := fun _ _ => False
 ct : St → Hp → Prop := fun _ _ => False
noncomputable abbrev TS := Gn → St → Hp → Prop
noncomputable def EP (X : Cx) (pins : List (Addr × Obj)) (σ : St) (Q : VK) (u : Value) (s' : Shared) : Prop := ∃ v H', Inv X pins σ H' s' ∧ RelV v u ∧ Q v H'
noncomputable def TP (X : Cx) (pins : List (Addr × Obj)) (σ : St) (Q : Bool → Hp → Prop) (b : Bool) (s' : Shared) : Prop := ∃ H', Inv X pins σ H' s' ∧ Q b H'
noncomputable def AP (X : Cx) (pins : List (Addr × Obj)) (σ : St) (Q : List V → Hp → Prop) (us : List Value) (s' : Shared) : Prop := ∃ vs H', Inv X pins σ H' s' ∧ Al vs us ∧ Q vs H'
noncomputable def SP (X : Cx) (pins : List (Addr × Obj)) (D : Gn) (f : Flow) (s' : Shared) : Prop :=
 match f with
 | .next => ∃ σ' H', Inv X pins σ' H' s' ∧ D.nx σ' H'
 | .brk => ∃ σ' H', Inv X pins σ' H' s' ∧ D.bk σ' H'
 | .cont => ∃ σ' H', Inv X pins σ' H' s' ∧ D.ct σ' H'
 | .ret u => ∃ v σ' H', Inv X pins σ' H' s' ∧ RelV v u ∧ D.rt v H'
noncomputable def PE (X : Cx) (e : Expr) (t : TE) : Prop :=
 ∀ (pins : List (Addr × Obj)) (s : Shared) (σ : St) (H : Hp) (Q : VK), Inv X pins σ H s → t σ H Q → wpAny (model X.prog X.w) X.A (eval e X.env) (EP X pins σ Q) X.xe s
noncomputable def PT (X : Cx) (e : Expr) (t : TT) : Prop :=
 ∀ (pins : List (Addr × Obj)) (s : Shared) (σ : St) (H : Hp) (Q : Bool → Hp → Prop), Inv X pins σ H s → t σ H Q → wpAny (model X.prog X.w) X.A (isTrue e X.env (eval e X.env)) (TP X pins σ Q) X.xe s
noncomputable def PW (X : Cx) (e : Expr) (t : TT) : Prop :=
 ∀ (whole : Sem Value) (pins : List (Addr × Obj)) (s : Shared) (σ : St) (H : Hp) (Q : Bool → Hp → Prop), Inv X pins σ H s → t σ H Q → wpAny (model X.prog X.w) X.A (isTrue e X.env whole) (TP X pins σ Q) X.xe s
theorem PW.pt {X : Cx} {e : Expr} {t : TT} (h : PW X e t) : PT X e t := h _
noncomputable def PA (X : Cx) (es : List Expr) (t : TA) : Prop :=
 ∀ (pos : Pos) (pins : List (Addr × Obj)) (s : Shared) (σ : St) (H : Hp) (Q : List V → Hp → Prop), Inv X pins σ H s → t σ H Q → wpAny (model X.prog X.w) X.A (spliced (backTo pos (starEach es X.env))) (AP X pins σ Q) X.xe s
noncomputable def PS (X : Cx) (st : Stmt) (t : TS) : Prop :=
 ∀ (pins : List (Addr × Obj)) (s : Shared) (σ : St) (H : Hp) (D : Gn), Inv X pins σ H s → t D σ H → wpAny (model X.prog X.w) X.A (exec st X.env) (SP X pins D) X.xe s
noncomputable def PSs (X : Cx) (st : List Stmt) (t : TS) : Prop :=
 ∀ (pins : List (Addr × Obj)) (s : Shared) (σ : St) (H : Hp) (D : Gn), Inv X pins σ H s → t D σ H → wpAny (model X.prog X.w) X.A (execs st X.env) (SP X pins D) X.xe s
theorem thn {α : Type} {t : Sem α} {Q Q' : α → Shared → Prop} {M : Model} {A : Around} {E : Value → Shared → Prop} {s : Shared} (h : wpAny M A t Q E s) (hQ : ∀ a s, Q a s → Q' a s) : wpAny M A t Q' E s := wpAny_mono h hQ fun _ _ x => x
section
variable {X : Cx}
noncomputable def MO (i : Nat) : TE := fun σ H Q => ∃ v, σ[i]? = some (some v) ∧ Q v H
noncomputable def tC (v : V) : TE := fun _ H Q => Q v H
theorem Zj {i : Nat} {x : Str} {pos : Pos} (hN : X.N[i]? = some x) (hv : Vis X.env.scope x) (hd : (x == ("__debug__" : Str)) = false := by decide) (hcd : (x == ("__classdict__" : Str)) = false := by decide) : PE X (.Name x pos) (MO i) := by
 intro pins s σ H Q I h
 obtain ⟨v, e, h⟩ := h
 obtain ⟨m, hn, hl⟩ := I.loc
 obtain ⟨u, r, l⟩ := hl i x v hN e hv
 have fin : EP X pins σ Q u s := ⟨v, H, I, r, h⟩
 rcases l with ⟨hk, hm⟩ | ⟨hk, c, hc, hcell⟩
 ·exact wpAny_Name (wpAny_loadName_local I.ok.kind hk hn hm fin) hd
 ·rcases hk with hk | hk
  ·exact wpAny_Name (wpAny_loadName_cell I.ok.kind hk hc hcell fin) hd
  ·exact wpAny_Name (wpAny_loadName_free I.ok.kind hk hc hcell fin hcd) hd
theorem AB {i j pos} : PE X (.Constant (.int i) j pos) (tC (.int i)) := fun _ _ _ H _ I h => wpAny_Constant_int ⟨.int i, H, I.tok _, ⟨_, rfl⟩, h⟩
theorem BP {b j pos} : PE X (.Constant (.bool b) j pos) (tC (.bl b)) := fun _ _ _ H _ I h => Constant_bool ⟨.bl b, H, I, rfl, h⟩
theorem Fv {j pos} : PE X (.Constant .none j pos) (tC .non) := fun _ _ _ H _ I h => Constant_none ⟨.non, H, I, rfl, h⟩
theorem AV {x j pos} : PE X (.Constant (.str x) j pos) (tC (.str x)) := fun _ _ _ H _ I h => Calls.Constant_str ⟨.str x, H, I.tok _, ⟨_, rfl⟩, h⟩
noncomputable def Gl (X : Cx) (x : Str) : Prop := X.env.kindOf x = some .globalImplicit
theorem Kd {E : Value → Shared → Prop} {pins : List (Addr × Obj)} {s : Shared} {σ : St} {H : Hp} {x : Str} {u : Value} {pos : Pos} {Q : Value → Shared → Prop} (I : Inv X pins σ H s) (hg : Gl X x) (hm : X.mg x = some u) (h : Q u s)
  (hd : (x == ("__debug__" : Str)) = false := by decide) : wpAny (model X.prog X.w) X.A (eval (.Name x pos) X.env) Q E s :=
 Calls.Name_function_global I.ok.kind hg (Calls.loadGlobal_global (by rw [I.ok.glob]; exact I.mod.glob.keeps I.bk) hm h) hd
theorem Jj {E : Value → Shared → Prop} {pins : List (Addr × Obj)} {s : Shared} {σ : St} {H : Hp} {x : Str} {u : Value} {pos : Pos} {Q : Value → Shared → Prop} (I : Inv X pins σ H s) (hg : Gl X x) (hm : X.mg x = none) (hv : bootBuiltins x = some u) (h : Q u s)
  (hn : x ≠ "__name__" := by decide) (hd : (x == ("__debug__" : Str)) = false := by decide) : wpAny (model X.prog X.w) X.A (eval (.Name x pos) X.env) Q E s := by
 obtain ⟨mb, h1, h2⟩ := I.mod.blt
 exact Calls.Name_function_global I.ok.kind hg (Calls.loadGlobal_builtin (by rw [I.ok.glob]; exact I.mod.glob.keeps I.bk) hm (by rw [I.ok.blt]; exact h1.keeps I.bk) ((h2 x hn).trans hv) h) hd
theorem EZ {x : Str} {v : V} {u : Value} {pos : Pos} (hg : Gl X x) (hm : X.mg x = some u) (r : RelV v u) (hd : (x == ("__debug__" : Str)) = false := by decide) : PE X (.Name x pos) (tC v) :=
 fun _ _ _ H _ I h => Kd I hg hm ⟨v, H, I, r, h⟩ hd
theorem BU {x : Str} {v : V} {u : Value} {pos : Pos} (hg : Gl X x) (hm : X.mg x = none) (hv : bootBuiltins x = some u) (r : RelV v u) (hn : x ≠ "__name__" := by decide) (hd : (x == ("__debug__" : Str)) = false := by decide) : PE X (.Name x pos) (tC v) :=
 fun _ _ _ H _ I h => Jj I hg hm hv ⟨v, H, I, r, h⟩ hn hd
variable {a b : Expr} {ta tb : TE} {pos : Pos}
noncomputable def PC (X : Cx) (op : CmpOp) (a b : Expr) (t : TE) : Prop :=
 ∀ (pins : List (Addr × Obj)) (s : Shared) (σ : St) (H : Hp) (Q : VK), Inv X pins σ H s → t σ H Q →
  wpAny (model X.prog X.w) X.A (eval a X.env) (fun v s₁ => wpAny (model X.prog X.w) X.A (eval b X.env) (fun u s₂ => wpAny (model X.prog X.w) X.A (compareOp op v u) (EP X pins σ Q) X.xe s₂) X.xe s₁) X.xe s
noncomputable def tB (t : TE) : TT := fun σ H Q => t σ H fun x H1 => ∃ c, x = .bl c ∧ Q c H1
theorem SL {op : CmpOp} {t : TE} (h : PC X op a b t) (h1 : behindInMarks op b = false := by first | exact nobehind _ (by decide) (by decide) | rfl) : PT X (.Compare a [op] [b] pos) (tB t) := by
 intro pins s σ H Q I hw
 refine wpAny_isTrue_Compare1 (thn (h pins s σ H _ I hw) fun v s1 h1 => thn h1 fun u s2 h2 => thn h2 fun c s3 zq => ?_) h1
 obtain ⟨x, H1, I1, r1, q1⟩ := zq
 obtain ⟨d, rfl, q⟩ := q1
 cases r1
 exact wpAny_truthy_bool ⟨H1, I1, q⟩
theorem Bb {e : Expr} {t : TE} (h : PE X e t) (he : ∀ whole, isTrue e X.env whole = (do let v ← whole; standAt e.pos; holding [v] (truthy v)) := by intro _; rfl) : PT X e (tB t) := by
 intro pins s σ H Q I hw
 refine isTrue_plain (thn (h pins s σ H _ I hw) fun v s1 zq => ?_) (he _)
 obtain ⟨x, H1, I1, r1, q1⟩ := zq
 obtain ⟨d, rfl, q⟩ := q1
 cases r1
 exact wpAny_truthy_bool ⟨H1, I1, q⟩
variable {tA tB' : TT} {rest : List Expr}
noncomputable def OO (t u : TT) : TT := fun σ H Q => t σ H fun c H1 => if c = true then u σ H1 Q else Q false H1
noncomputable def tOr (t u : TT) : TT := fun σ H Q => t σ H fun c H1 => if c = true then Q true H1 else u σ H1 Q
noncomputable def OM (t : TT) : TT := fun σ H Q => t σ H fun c H1 => Q (!c) H1
theorem C8 (ha : PT X a tA) : PW X (.BoolOp .And [a] pos) tA := by
 intro wh pins s σ H Q I h
 refine isTrue_and (thn (ha pins s σ H Q I h) fun c s1 e => ?_)
 cases c with
 | true => exact isTrue_and_nil e
 | false => exact e
theorem Fy (ha : PT X a tA) : PW X (.BoolOp .Or [a] pos) tA := by
 intro wh pins s σ H Q I h
 refine isTrue_or (thn (ha pins s σ H Q I h) fun c s1 e => ?_)
 cases c with
 | false => exact isTrue_or_nil e
 | true => exact e
theorem E4 (ha : PT X a tA) (hb : PW X (.BoolOp .And (b :: rest) pos) tB') : PW X (.BoolOp .And (a :: b :: rest) pos) (OO tA tB') := by
 intro wh pins s σ H Q I h
 refine isTrue_and (thn (ha pins s σ H _ I h) fun c s1 zq => ?_)
 obtain ⟨H1, I1, q1⟩ := zq
 cases c with
 | true => exact hb wh pins s1 σ H1 Q I1 q1
 | false => exact ⟨H1, I1, q1⟩
theorem IT (ha : PT X a tA) (hb : PW X (.BoolOp .Or (b :: rest) pos) tB') : PW X (.BoolOp .Or (a :: b :: rest) pos) (tOr tA tB') := by
 intro wh pins s σ H Q I h
 refine isTrue_or (thn (ha pins s σ H _ I h) fun c s1 zq => ?_)
 obtain ⟨H1, I1, q1⟩ := zq
 cases c with
 | true => exact ⟨H1, I1, q1⟩
 | false => exact hb wh pins s1 σ H1 Q I1 q1
theorem Cm (ha : PT X a tA) : PT X (.UnaryOp .Not a pos) (OM tA) := by
 intro pins s σ H Q I h
 exact isTrue_not (ha pins s σ H (fun c H1 => Q (!c) H1) I h)
noncomputable def Il (ta tb : TE) : TE := fun σ H Q => ta σ H fun x H1 => ∃ c, x = .bl c ∧ if c = true then tb σ H1 Q else Q (.bl false) H1
noncomputable def QQ (ta tb : TE) : TE := fun σ H Q => ta σ H fun x H1 => ∃ c, x = .bl c ∧ if c = true then Q (.bl true) H1 else tb σ H1 Q
noncomputable def IQ (ta : TE) : TE := fun σ H Q => ta σ H fun x H1 => ∃ c, x = .bl c ∧ Q (.bl (!c)) H1
theorem Pr {op} {t : TE} (h : PE X a t) : PE X (.BoolOp op [a] pos) t := fun pins s σ H Q I hw => BoolOp_one (h pins s σ H Q I hw)
theorem Nh (ha : PE X a ta) (hb : PE X (.BoolOp .And (b :: rest) pos) tb) : PE X (.BoolOp .And (a :: b :: rest) pos) (Il ta tb) := by
 intro pins s σ H Q I h
 refine BoolOp_and (thn (ha pins s σ H _ I h) fun v s1 zq => ?_)
 obtain ⟨x, H1, I1, r1, q1⟩ := zq
 obtain ⟨c, rfl, q1⟩ := q1
 cases r1
 refine wpAny_truthy_bool ?_
 cases c with
 | true => exact hb pins s1 σ H1 Q I1 q1
 | false => exact ⟨.bl false, H1, I1, rfl, q1⟩
theorem Vy (ha : PE X a ta) : PE X (.UnaryOp .Not a pos) (IQ ta) := by
 intro pins s σ H Q I h
 refine UnaryOp_ (thn (ha pins s σ H _ I h) fun v s1 zq => ?_)
 obtain ⟨x, H1, I1, r1, q1⟩ := zq
 obtain ⟨c, rfl, q1⟩ := q1
 cases r1
 exact not_of (wpAny_truthy_bool ⟨.bl (!c), H1, I1, rfl, q1⟩)
noncomputable def tIf (t : TT) (ta tb : TE) : TE := fun σ H Q => t σ H fun c H1 => if c = true then ta σ H1 Q else tb σ H1 Q
end
noncomputable def SqL (K : W.Frag) (H : Hp) (a : Addr) (xs : List V) : Prop :=
 Rd H a (.lst xs) ∨
  ∃ (o : Obj) (its : Array Value) (n : Nat), K.lookup a = some o ∧ o.cls = .type "list" ∧ o.dict = none ∧ o.data = .seq its n ∧ its.size ≤ sizeLine ∧ Al xs its.toList
noncomputable def SqT (K : W.Frag) (H : Hp) (a : Addr) (xs : List V) : Prop :=
 Rd H a (.tup xs) ∨
  ∃ (o : Obj) (its : Array Value) (n : Nat), K.lookup a = some o ∧ o.cls = .type "tuple" ∧ o.data = .seq its n ∧ its.size ≤ sizeLine ∧ Al xs its.toList
noncomputable def absV : Value → Option V
 | .none => some .non
 | .bool b => some (.bl b)
 | .int i _ => some (.int i)
 | .str x _ => some (.str x)
 | .bytes b _ => some (.byt b)
 | .float b _ => some (.flt b)
 | .ref a => some (.ref a)
 | .type n => some (.ty n)
 | _ => none
theorem RelV.abs {x : V} {u : Value} (r : RelV x u) : absV u = some x := by
 cases x with
 | non => cases r; rfl
 | bl _ => cases r; rfl
 | int _ => obtain ⟨t, rfl⟩ := r; rfl
 | str _ => obtain ⟨t, rfl⟩ := r; rfl
 | byt _ => obtain ⟨t, rfl⟩ := r; rfl
 | flt _ => obtain ⟨t, rfl⟩ := r; rfl
 | ref _ => cases r; rfl
 | ty _ => cases r; rfl
theorem RelV.inj {x y : V} {u : Value} (r : RelV x u) (q : RelV y u) : x = y := zN (r.abs.symm.trans q.abs)
theorem Al.inj : ∀ {xs ys : List V} {us : List Value}, Al xs us → Al ys us → xs = ys
 | _, _, _, .nil, .nil => rfl
 | _, _, _, .cons r t, .cons r' t' => by rw [r.inj r', Al.inj t t']
section
variable {X : Cx} {pins : List (Addr × Obj)} {σ : St} {H : Hp} {s : Shared} {a : Addr} {xs ys : List V}
theorem SqL.of {K : W.Frag} (h : H a = some (.lst xs)) : SqL K H a xs := .inl (.inl h)
theorem SqT.of {K : W.Frag} (h : H a = some (.tup xs)) : SqT K H a xs := .inl (.inl h)
theorem Inv.list (I : Inv X pins σ H s) (h : SqL X.K H a xs) : ∃ its : List Value, Al xs its ∧ PlainL s.heap a its.toArray ∧ xs.length ≤ sizeLine := by
 rcases h with h | ⟨o, its, n, hk, hc, hd, hs, hz, r⟩
 ·obtain ⟨z, its, n, r, e⟩ := h.ok I.hok
  exact ⟨its, r, ⟨_, n, e, rfl, rfl, rfl⟩, z⟩
 ·refine ⟨its.toList, r, ⟨o, n, I.kIn a o hk, hc, hd, by simpa using hs⟩, ?_⟩
  have e := r.length
  simp only [Array.length_toList] at e
  lia
theorem Inv.tuple (I : Inv X pins σ H s) (h : SqT X.K H a xs) : ∃ its : List Value, Al xs its ∧ IsTup s.heap a its.toArray ∧ xs.length ≤ sizeLine := by
 rcases h with h | ⟨o, its, n, hk, hc, hs, hz, r⟩
 ·obtain ⟨z, its, r, p⟩ := h.ok I.hok
  exact ⟨its, r, p, z⟩
 ·refine ⟨its.toList, r, ⟨o, I.kIn a o hk, hc, n, by simpa using hs⟩, ?_⟩
  have e := r.length
  simp only [Array.length_toList] at e
  lia
theorem Inv.list_inj (I : Inv X pins σ H s) (h : SqL X.K H a xs) (h' : SqL X.K H a ys) : xs = ys := by
 obtain ⟨its, r, ⟨o, n, e, _, _, d⟩, _⟩ := I.list h
 obtain ⟨its', r', ⟨o', n', e', _, _, d'⟩, _⟩ := I.list h'
 rw [e] at e'; cases e'
 rw [d] at d'
 injection d' with d1 _
 have : its = its' := by simpa using congrArg Array.toList d1
 subst this
 exact r.inj r'
theorem Inv.tuple_inj (I : Inv X pins σ H s) (h : SqT X.K H a xs) (h' : SqT X.K H a ys) : xs = ys := by
 obtain ⟨its, r, ⟨o, e, _, n, d⟩, _⟩ := I.tuple h
 obtain ⟨its', r', ⟨o', e', _, n', d'⟩, _⟩ := I.tuple h'
 rw [e] at e'; cases e'
 rw [d] at d'
 injection d' with d1 _
 have : its = its' := by simpa using congrArg Array.toList d1
 subst this
 exact r.inj r'
end
noncomputable abbrev Cx.wish (X : Cx) (E : Value → Shared → Prop) : Cx := { X with xe := E }
noncomputable abbrev Cx.nox (X : Cx) : Cx := X.wish fun _ _ => False
theorem Cx.Ok.wish {X : Cx} (ok : X.Ok) (E : Value → Shared → Prop) : (X.wish E).Ok :=
 ⟨ok.mod, ok.kind, ok.glob, ok.blt, ok.above, ok.inj, ok.has, ok.cab, ok.hd, ok.frames, ok.stk, ok.exf, ok.bs, ok.bsz, ok.noex, ok.exfs, ok.funs, ok.frf⟩
theorem Cx.Ok.unwish {X : Cx} {E : Value → Shared → Prop} (ok : (X.wish E).Ok) : X.Ok :=
 ⟨ok.mod, ok.kind, ok.glob, ok.blt, ok.above, ok.inj, ok.has, ok.cab, ok.hd, ok.frames, ok.stk, ok.exf, ok.bs, ok.bsz, ok.noex, ok.exfs, ok.funs, ok.frf⟩
section
variable {X : Cx} {pins : List (Addr × Obj)} {σ : St} {H : Hp} {s : Shared} {E : Value → Shared → Prop}
theorem Inv.wish (I : Inv X pins σ H s) (E : Value → Shared → Prop) : Inv (X.wish E) pins σ H s := ⟨I.ok.wish E, I.os, I.bare, I.base, I.loc, I.cell, I.free, I.freeC, I.pin, I.hok, I.len⟩
theorem Inv.unwish (I : Inv (X.wish E) pins σ H s) : Inv X pins σ H s := ⟨I.ok.unwish, I.os, I.bare, I.base, I.loc, I.cell, I.free, I.freeC, I.pin, I.hok, I.len⟩
theorem SP.unwish {D : Gn} {f : Flow} {s' : Shared} (h : SP (X.wish E) pins D f s') : SP X pins D f s' := by
 cases f with
 | next => obtain ⟨σ', H', I, q⟩ := h; exact ⟨σ', H', I.unwish, q⟩
 | brk => obtain ⟨σ', H', I, q⟩ := h; exact ⟨σ', H', I.unwish, q⟩
 | cont => obtain ⟨σ', H', I, q⟩ := h; exact ⟨σ', H', I.unwish, q⟩
 | ret u => obtain ⟨v, σ', H', I, r, q⟩ := h; exact ⟨v, σ', H', I.unwish, r, q⟩
theorem PSs.nox {st : List Stmt} {t : TS} (h : PSs X.nox st t) : PSs X st t := fun pins s σ H D I hw =>
 wpAny_mono (h pins s σ H D (I.wish _) hw) (fun _ _ q => q.unwish) fun _ _ z => False.elim z
end
section
variable {X : Cx} {st : Stmt} {rest : List Stmt} {t u : TS} {e : Expr} {te : TE} {pos : Pos}
noncomputable def Mq : TS := fun D σ H => D.nx σ H
noncomputable def RY (t u : TS) : TS := fun D σ H => t { D with nx := u D } σ H
theorem AO : PSs X [] Mq := fun _ _ σ H _ I h => wpAny_execs_nil ⟨σ, H, I, h⟩
theorem AD (h1 : PS X st t) (h2 : PSs X rest u) : PSs X (st :: rest) (RY t u) := by
 intro pins s σ H D I h
 refine wpAny_execs_cons (thn (h1 pins s σ H { D with nx := u D } I h) fun f s1 q => ?_)
 cases f with
 | next =>
  obtain ⟨σ', H', I', q⟩ := q
  exact h2 pins s1 σ' H' D I' q
 | ret v => exact q
 | brk => exact q
 | cont => exact q
theorem AE (h1 : PS X st t) : PSs X [st] t := by
 intro pins s σ H D I h
 refine wpAny_execs_cons (thn (h1 pins s σ H D I h) fun f s1 q => ?_)
 cases f with
 | next => exact wpAny_execs_nil q
 | ret v => exact q
 | brk => exact q
 | cont => exact q
noncomputable def La : TS := fun D σ H => D.bk σ H
noncomputable def Oj : TS := fun D σ H => D.ct σ H
theorem Inv.quiet {pins : List (Addr × Obj)} {σ : St} {H : Hp} {s : Shared} (I : Inv X pins σ H s) : interactive X.env = false := by simp [interactive, I.ok.kind]
noncomputable def Mi (te : TE) : TS := fun D σ H => te σ H fun _ H1 => D.nx σ H1
theorem Av (he : PE X e te) (hs : swapsWith e none pos.line X.env = pure false := by rfl) : PS X (.Expr e pos) (Mi te) := by
 intro pins s σ H D I h
 exact wpAny_Expr_any (thn (he pins s σ H _ I h) fun v s1 ⟨x, H1, I1, r1, q1⟩ => ⟨σ, H1, I1, q1⟩) I.quiet hs
noncomputable def SF (te : TE) : TS := fun D σ H => te σ H D.rt
theorem AK (he : PE X e te) : PS X (.Return (some e) pos) (SF te) := by
 intro pins s σ H D I h
 exact wpAny_Return_some (thn (he pins s σ H _ I h) fun v s1 ⟨x, H1, I1, r1, q1⟩ => ⟨x, σ, H1, I1, r1, q1⟩)
noncomputable def ND : TS := fun D _ H => D.rt .non H
theorem WH : PS X (.Return none pos) ND := fun _ _ σ H _ I h => wpAny_Return_none ⟨.non, σ, H, I, rfl, h⟩
noncomputable def Pp (c : TT) (t u : TS) : TS := fun D σ H => c σ H fun b H1 => if b = true then t D σ H1 else u D σ H1
theorem AY {c : Expr} {a b : List Stmt} {tc : TT} (hc : PT X c tc) (ha : PSs X a t) (hb : PSs X b u) : PS X (.If c a b pos) (Pp tc t u) := by
 intro pins s σ H D I h
 refine wpAny_If (thn (hc pins s σ H _ I h) fun d s1 zq => ?_)
 obtain ⟨H1, I1, q1⟩ := zq
 cases d with
 | true => exact ha pins s1 σ H1 D I1 q1
 | false => exact hb pins s1 σ H1 D I1 q1
end
noncomputable abbrev TG := V → St → Hp → (St → Hp → Prop) → Prop
noncomputable abbrev TGs := List V → St → Hp → (St → Hp → Prop) → Prop
noncomputable def PG (X : Cx) (target : Expr) (t : TG) : Prop :=
 ∀ (pins : List (Addr × Obj)) (s : Shared) (σ : St) (H : Hp) (v : V) (u : Value) (Q : St → Hp → Prop), Inv X pins σ H s → RelV v u → t v σ H Q →
  wpAny (model X.prog X.w) X.A (assign target X.env u) (fun _ s' => ∃ σ' H', Inv X pins σ' H' s' ∧ Q σ' H') X.xe s
noncomputable def PGs (X : Cx) (ts : List Expr) (t : TGs) : Prop :=
 ∀ (pins : List (Addr × Obj)) (s : Shared) (σ : St) (H : Hp) (vs : List V) (us : List Value) (Q : St → Hp → Prop), Inv X pins σ H s → Al vs us → t vs σ H Q →
  wpAny (model X.prog X.w) X.A (assignInOrder ((assignEach ts X.env).map (·.2)) us) (fun _ s' => ∃ σ' H', Inv X pins σ' H' s' ∧ Q σ' H') X.xe s
noncomputable abbrev Z2 := V → V → V → Hp → (Hp → Prop) → Prop
noncomputable def PSet (X : Cx) (t : Z2) : Prop :=
 ∀ (pins : List (Addr × Obj)) (s : Shared) (σ : St) (H : Hp) (o i v : V) (ov iv u : Value) (Q : Hp → Prop), Inv X pins σ H s → RelV o ov → RelV i iv → RelV v u → t o i v H Q →
  wpAny (model X.prog X.w) X.A (setItem ov iv u) (fun _ s' => ∃ H', Inv X pins σ H' s' ∧ Q H') X.xe s
section
variable {X : Cx} {pos : Pos}
noncomputable def ET (i : Nat) : TG := fun v σ H Q => Q (σ.set i (some v)) H
theorem Sy {i : Nat} {x : Str} (hN : X.N.Nodup) (hi : X.N[i]? = some x) (hx : Loc X.env.scope x) (hf : X.fn x = true ∨ X.env.scope.names.lookup x = some .local := by first | exact .inl rfl | exact .inr rfl | assumption) : PG X (.Name x pos) (ET i) := by
 intro pins s σ H v u Q I r h
 exact wpAny_assign_Name (Qy I hN hi hx r (fun s' I' => ⟨_, H, I', h⟩) hf)
noncomputable def LV : TGs := fun vs σ H Q => vs = [] ∧ Q σ H
noncomputable def FW (t : TG) (u : TGs) : TGs := fun vs σ H Q => ∃ v r, vs = v :: r ∧ t v σ H fun σ' H' => u r σ' H' Q
theorem C4 : PGs X [] LV := by
 intro pins s σ H vs us Q I r h
 obtain ⟨e, h⟩ := h
 subst e
 cases r
 exact assignInOrder_nil ⟨σ, H, I, h⟩
theorem Ai {e : Expr} {es : List Expr} {t : TG} {u : TGs} (h1 : PG X e t) (h2 : PGs X es u)
  (hs : (assignEach (e :: es) X.env).map (·.2) = assign e X.env :: (assignEach es X.env).map (·.2) := by rfl) : PGs X (e :: es) (FW t u) := by
 intro pins s σ H vs us Q I r h
 obtain ⟨v, vr, e1, h⟩ := h
 subst e1
 cases r with
 | cons r rr =>
  rw [hs]
  refine assignInOrder_cons (thn (h1 pins s σ H _ _ _ I r h) fun _ s1 zq => ?_)
  obtain ⟨σ1, H1, I1, q1⟩ := zq
  exact h2 pins s1 σ1 H1 _ _ Q I1 rr q1
noncomputable def K7 (K : W.Frag) (n : Nat) (t : TGs) : TG := fun v σ H Q => ∃ a xs, v = .ref a ∧ SqT K H a xs ∧ xs.length = n ∧ t xs σ H Q
theorem Fx {es : List Expr} {k : Nat} {t : TGs} {n : Nat} (hc : X.calm = true) (h : PGs X es t)
  (hn : (assignEach es X.env).length = n := by rfl) (hst : (assignEach es X.env).findIdx? (·.1) = none := by rfl) : PG X (.Tuple es k pos) (K7 X.K n t) := by
 intro pins s σ H v u Q I r hw
 obtain ⟨a, xs, e1, hq, hl, hw⟩ := hw
 subst e1
 cases r
 obtain ⟨its, rv, ht, hz⟩ := I.tuple hq
 refine assign_Tuple_tuple (I.ok.hd hc) ht (by simp [hn, ← hl, rv.length]) hst fun h' hx => ?_
 have I1 : Inv X pins σ H { s with heap := h' } := I.kept (t' := s.toks) fun b o e => hx b o (zX (zH e)) e
 exact h pins _ σ H xs _ Q I1 (by simpa using rv) hw
noncomputable def OZ (to ti : TE) (t : Z2) : TG := fun v σ H Q => to σ H fun o H1 => ti σ H1 fun i H2 => t o i v H2 fun H3 => Q σ H3
theorem Zf {o i : Expr} {to ti : TE} {t : Z2} (ho : PE X o to) (hi : PE X i ti) (hs : PSet X t)
  (ha : ∀ v, assign (.Subscript o i pos) X.env v = (do
   let ov ← holding [v] (eval o X.env)
   let iv ← holding [v, ov] (eval i X.env)
   standAt pos
   holding [v, ov, iv] (setItem ov iv v)
   release [v, ov, iv] []) := by intro _; rfl) : PG X (.Subscript o i pos) (OZ to ti t) := by
 intro pins s σ H v u Q I r h
 rw [ha]
 refine wpAny_bind (wpAny_holding (thn (ho pins s σ H _ I h) fun ov s1 zq => ?_))
 obtain ⟨x, H1, I1, r1, q1⟩ := zq
 refine wpAny_bind (wpAny_holding (thn (hi pins s1 σ H1 _ I1 q1) fun iv s2 zq => ?_))
 obtain ⟨y, H2, I2, r2, q2⟩ := zq
 refine wpAny_bind (wpAny_standAt (wpAny_bind (wpAny_holding (thn (hs pins s2 σ H2 x y v ov iv u _ I2 r1 r2 r q2) fun _ s3 zq => ?_))))
 obtain ⟨H3, I3, q3⟩ := zq
 exact wpAny_release ⟨σ, H3, I3, q3⟩
noncomputable def OX (te : TE) (g : TG) : TS := fun D σ H => te σ H fun x H1 => g x σ H1 D.nx
theorem Gy {tg e : Expr} {te : TE} {g : TG} (he : PE X e te) (hg : PG X tg g) (hs : swapsWithSole [tg] e pos.line X.env = pure false := by rfl) (hw : swappedStores [tg] e X.env = pure none := by rfl)
  (h1 : (assignEach [tg] X.env).map (·.2) = [assign tg X.env] := by rfl) : PS X (.Assign [tg] e pos) (OX te g) := by
 intro pins s σ H D I h
 refine wpAny_Assign_stores (thn (he pins s σ H _ I h) fun v s1 zq => ?_) hs hw
 obtain ⟨x, H1, I1, r1, q1⟩ := zq
 rw [h1]
 exact thn (hg pins s1 σ H1 x v _ I1 r1 q1) fun _ s2 q => q
theorem Zr {i : Nat} {x : Str} {e : Expr} {te : TE} {pos' : Pos} (hN : X.N.Nodup) (hi : X.N[i]? = some x) (hx : Loc X.env.scope x) (he : PE X e te) (hs : swapsWith e (some (.Name x pos')) pos.line X.env = pure false := by rfl) (hf : X.fn x = true ∨ X.env.scope.names.lookup x = some .local := by first | exact .inl rfl | exact .inr rfl | assumption) :
  PS X (.Assign [.Name x pos'] e pos) (OX te (ET i)) := by
 intro pins s σ H D I h
 refine wpAny_Assign_Name (thn (he pins s σ H _ I h) fun v s1 zq => ?_) hs
 obtain ⟨y, H1, I1, r1, q1⟩ := zq
 exact Qy I1 hN hi hx r1 (fun s2 I2 => ⟨_, H1, I2, q1⟩) hf
noncomputable def T2 (i j : Nat) (ta : TA) : TS := fun D σ H => ta σ H fun vs H1 => ∃ v w, vs = [v, w] ∧ D.nx ((σ.set i (some v)).set j (some w)) H1
end
section
variable {X : Cx} {pos : Pos}
noncomputable def ZW (c : TT) (tb : TS) : TS := fun D σ H => ∃ W : Nat → St → Hp → Prop, (∃ m, W m σ H) ∧ ∀ m σ H, W m σ H →
 c σ H fun b H1 => if b = true then ∃ N : St → Hp → Prop, (∀ σ' H', N σ' H' → ∃ m', m' < m ∧ W m' σ' H') ∧ tb { D with nx := N, ct := N, bk := D.nx } σ H1 else D.nx σ H1
theorem VA {c : Expr} {body : List Stmt} {tc : TT} {tb : TS} (hp : PassesOwn (model X.prog X.w) X.A X.env X.xe) (hc : PT X c tc) (hb : PSs X body tb) : PS X (.While c body [] pos) (ZW tc tb) := by
 intro pins s σ H D I h
 obtain ⟨W, ⟨m0, w0⟩, turn⟩ := h
 refine wpAny_While (codeAny_whileLoop (fun n s' => ∃ σ' H', Inv X pins σ' H' s' ∧ W n σ' H') ?_ m0 ⟨σ, H, I, w0⟩)
 rintro n s1 ⟨σ1, H1, I1, w1⟩
 refine wpAny_passesOwn hp (thn (hc pins s1 σ1 H1 _ I1 (turn n σ1 H1 w1)) fun b s2 zq => ?_)
 obtain ⟨H2, I2, q2⟩ := zq
 cases b with
 | true =>
  obtain ⟨N, hN, q2⟩ := q2
  rw [if_pos rfl]
  refine wpAny_passesOwn hp (thn (hb pins s2 σ1 H2 _ I2 q2) fun f s3 q3 => ?_)
  cases f with
  | next =>
   obtain ⟨σ3, H3, I3, n3⟩ := q3
   obtain ⟨m', hm, w3⟩ := hN σ3 H3 n3
   exact ⟨m', hm, σ3, H3, I3, w3⟩
  | cont =>
   obtain ⟨σ3, H3, I3, n3⟩ := q3
   obtain ⟨m', hm, w3⟩ := hN σ3 H3 n3
   exact ⟨m', hm, σ3, H3, I3, w3⟩
  | brk => exact q3
  | ret v => exact q3
 | false =>
  rw [if_neg zS]
  exact wpAny_execs_nil ⟨σ1, H2, I2, q2⟩
end
structure It where
 go : Nat → Hp → Prop
 yld : Nat → Hp → V → Hp → Prop
 stop : Nat → Hp → Prop
noncomputable def ML (X : Cx) (pins : List (Addr × Obj)) (H : Hp) (b : Addr) : Prop :=
 H b = none ∧ b ≠ X.env.locals ∧ b ∉ X.fs ∧ (b ∈ X.ex ∨ X.s₀.heap.objs.size ≤ b) ∧ (∀ x c, X.env.cells.lookup x = some c → c ≠ b) ∧ ∀ p ∈ X.pn ++ pins, p.1 ≠ b
theorem Inv.fpOk {X : Cx} {pins : List (Addr × Obj)} {σ : St} {H H' : Hp} {s : Shared} {b : Addr} (I : Inv X pins σ H s) (hb : s.heap.objs.size ≤ b) (hn : H' b = none) : ML X pins H' b := by
 refine ⟨hn, zt (zF I.lt hb), I.nofs hb, .inr (zT I.sz hb), fun x c e z => ?_, fun p hp z => ?_⟩
 ·obtain ⟨v, q⟩ := I.cell x c e
  exact absurd (zF q.lt (by rw [z]; exact hb)) (zr _)
 ·exact absurd (zF (zH (I.pin p hp).1) (by rw [z]; exact hb)) (zr _)
structure Tv (P : Program) (w : World) (K : W.Frag) (tg : Expr) (J : It) (fp : List Addr) (it : Addr) (tn : Nat → Heap → Prop) : Prop where
 mem : it ∈ fp
 obj : ∀ i h, tn i h → ∀ b ∈ fp, ∃ o, h.get? b = some o ∧ ∀ v, o.data ≠ .cell v
 keep : ∀ i h h', tn i h → (∀ b ∈ fp, ∀ o, h.get? b = some o → h'.get? b = some o) → tn i h'
 item : ∀ (X : Cx), X.prog = P → X.w = w → X.K = K → X.calm = true → ∀ (i : Nat) (pins : List (Addr × Obj)) (s : Shared) (σ : St) (H : Hp) (E : Value → Shared → Prop), Inv X pins σ H s → (∀ b ∈ fp, ML X pins H b) → tn i s.heap → J.go i H →
  wpAny (model P w) X.A (pyNext (.ref it)) (fun r s1 => ∃ u, r = some u ∧
   wpAny (model P w) X.A (letOwnedTupleGo tg (.ref it) u) (fun _ s2 => ∃ x H', Inv X pins σ H' s2 ∧ RelV x u ∧ J.yld i H x H' ∧ tn (i + 1) s2.heap ∧ ∀ b ∈ fp, H' b = none) E s1) E s
 done : ∀ (X : Cx), X.prog = P → X.w = w → X.K = K → X.calm = true → ∀ (i : Nat) (pins : List (Addr × Obj)) (s : Shared) (σ : St) (H : Hp) (E : Value → Shared → Prop), Inv X pins σ H s → (∀ b ∈ fp, ML X pins H b) → tn i s.heap → J.stop i H →
  wpAny (model P w) X.A (pyNext (.ref it)) (fun r s1 => r = none ∧ Inv X pins σ H s1) E s
 self : ∀ (A : Around) (i : Nat) (s : Shared) (Q : Value → Shared → Prop) (E : Value → Shared → Prop), tn i s.heap → Q (.ref it) s → wpAny (model P w) A (pyIter (.ref it)) Q E s
noncomputable abbrev TI := St → Hp → (It → Hp → Prop) → Prop
noncomputable def PIE (X : Cx) (pins : List (Addr × Obj)) (σ : St) (tg : Expr) (R : It → Hp → Prop) (itv : Value) (s2 : Shared) : Prop :=
 ∃ (it : Addr) (fp : List Addr) (tn : Nat → Heap → Prop) (J : It) (H' : Hp), itv = .ref it ∧ Inv X pins σ H' s2 ∧ Tv X.prog X.w X.K tg J fp it tn ∧ tn 0 s2.heap ∧ (∀ b ∈ fp, ML X pins H' b) ∧ R J H'
noncomputable def PI (X : Cx) (tg iter : Expr) (wi : TI) : Prop :=
 ∀ (pins : List (Addr × Obj)) (s : Shared) (σ : St) (H : Hp) (R : It → Hp → Prop), Inv X pins σ H s → wi σ H R →
  wpAny (model X.prog X.w) X.A (eval iter X.env) (fun v s1 => wpAny (model X.prog X.w) X.A (pyIter v) (PIE X pins σ tg R) X.xe s1) X.xe s
theorem VS {M : Model} {A : Around} {E : Value → Shared → Prop} {s : Shared} {tg : Expr} {it : Addr} {u : Value} {o : Obj} {n : String} {vs : Array Value} {Q : Unit → Shared → Prop} (ho : s.heap.get? it = some o) (hc : o.cls = .type n) (hd : o.data = .fields vs)
  (hn : ["enumerate", "zip", "dict_itemiterator", "dict_reverseitemiterator", "odict_iterator", "itertools.zip_longest", "itertools.pairwise"].contains n = false) (hQ : Q () s) : wpAny M A (letOwnedTupleGo tg (.ref it) u) Q E s := by
 unfold letOwnedTupleGo
 cases tg <;> first
  | exact wpAny_pure hQ
  | (cases u <;> first
    | exact wpAny_pure hQ
    | (refine wpAny_bind (wpAny_load ho ?_)
       rw [hc, hd]
       show wpAny M A (if (["enumerate", "zip", "dict_itemiterator", "dict_reverseitemiterator", "odict_iterator", "itertools.zip_longest", "itertools.pairwise"].contains n && vs[0]? == some (rawInt _)) = true then _ else _) Q E s
       rw [if_neg (by intro h; rw [hn, Bool.false_and] at h; cases h)]
       exact wpAny_pure hQ))
noncomputable def Itl (K : W.Frag) (a : Addr) : It :=
 ⟨fun i H => ∃ xs x, SqL K H a xs ∧ xs[i]? = some x, fun i H x H' => H' = H ∧ ∀ xs, SqL K H a xs → xs[i]? = some x, fun i H => ∃ xs, SqL K H a xs ∧ xs.length ≤ i⟩
noncomputable def Itt (K : W.Frag) (a : Addr) : It :=
 ⟨fun i H => ∃ xs x, SqT K H a xs ∧ xs[i]? = some x, fun i H x H' => H' = H ∧ ∀ xs, SqT K H a xs → xs[i]? = some x, fun i H => ∃ xs, SqT K H a xs ∧ xs.length ≤ i⟩
noncomputable def Itr (lo : Int) (n : Nat) : It := ⟨fun i _ => i < n, fun i H x H' => H' = H ∧ x = .int (lo + i), fun i _ => n ≤ i⟩
theorem UZ {P : Program} {w : World} {K : W.Frag} {tg : Expr} (a it : Addr) : Tv P w K tg (Itl K a) [it] it (fun i h => h.IsListIter it a i) where
 mem := by simp
 obj := fun i h st b hb => by
  have e : b = it := by simpa using hb
  subst e
  obtain ⟨o, e, c, d⟩ := st
  exact ⟨o, e, fun v z => by rw [d] at z; cases z⟩
 keep := fun i h h' st k => st.at fun o e => k it (by simp) o e
 item := by
  intro X hP hw hK hc i pins s σ H E I hf st hg
  subst hP hw hK
  obtain ⟨xs, x, hq, hx⟩ := hg
  obtain ⟨its, rv, p, hz⟩ := I.list hq
  obtain ⟨u, hu, ru⟩ := rv.get hx
  obtain ⟨f0, f1, f2, f3, f4, f5⟩ := hf it (by simp)
  refine wpAny_pyNext_list_item st p.isList (x := u) (by simpa using hu) fun h' st' sb => ?_
  have I1 : Inv X pins σ H { s with heap := h' } := I.turned (t' := s.toks) (fun b o hb e => (sb.2 b hb).trans e) f0 f1 f3 f4 f5
  obtain ⟨o, e, c, d⟩ := id st'
  exact ⟨u, rfl, VS (s := { s with heap := h' }) e c d (by decide) ⟨x, H, I1, ru, ⟨rfl, fun ys hy => by rw [I.list_inj hy hq]; exact hx⟩, st', fun b hb => (hf b hb).1⟩⟩
 done := by
  intro X hP hw hK hc i pins s σ H E I hf st hg
  subst hP hw hK
  obtain ⟨xs, hq, hx⟩ := hg
  obtain ⟨its, rv, p, hz⟩ := I.list hq
  obtain ⟨f0, f1, f2, f3, f4, f5⟩ := hf it (by simp)
  have hl := rv.length
  exact wpAny_pyNext_list_end (I.ok.hd hc) st p.isList (by simp; lia) fun h' eb => ⟨rfl, I.turned (t' := s.toks) (fun b o hb e => eb b o hb e) f0 f1 f3 f4 f5⟩
 self := fun _ _ _ _ _ st h => wpAny_pyIter_listiter st h
theorem SQ {P : Program} {w : World} {K : W.Frag} {tg : Expr} (a it : Addr) : Tv P w K tg (Itt K a) [it] it (fun i h => h.IsTupleIter it a i) where
 mem := by simp
 obj := fun i h st b hb => by
  have e : b = it := by simpa using hb
  subst e
  obtain ⟨o, e, c, d⟩ := st
  exact ⟨o, e, fun v z => by rw [d] at z; cases z⟩
 keep := fun i h h' st k => st.at fun o e => k it (by simp) o e
 item := by
  intro X hP hw hK hc i pins s σ H E I hf st hg
  subst hP hw hK
  obtain ⟨xs, x, hq, hx⟩ := hg
  obtain ⟨its, rv, p, hz⟩ := I.tuple hq
  obtain ⟨u, hu, ru⟩ := rv.get hx
  obtain ⟨f0, f1, f2, f3, f4, f5⟩ := hf it (by simp)
  refine wpAny_pyNext_tuple_item st (show s.heap.IsTuple a its.toArray from p) (x := u) (by simpa using hu) fun h' st' sb => ?_
  have I1 : Inv X pins σ H { s with heap := h' } := I.turned (t' := s.toks) (fun b o hb e => (sb.2 b hb).trans e) f0 f1 f3 f4 f5
  obtain ⟨o, e, c, d⟩ := id st'
  exact ⟨u, rfl, VS (s := { s with heap := h' }) e c d (by decide) ⟨x, H, I1, ru, ⟨rfl, fun ys hy => by rw [I.tuple_inj hy hq]; exact hx⟩, st', fun b hb => (hf b hb).1⟩⟩
 done := by
  intro X hP hw hK hc i pins s σ H E I hf st hg
  subst hP hw hK
  obtain ⟨xs, hq, hx⟩ := hg
  obtain ⟨its, rv, p, hz⟩ := I.tuple hq
  obtain ⟨f0, f1, f2, f3, f4, f5⟩ := hf it (by simp)
  have hl := rv.length
  exact wpAny_pyNext_tuple_end (I.ok.hd hc) st (show s.heap.IsTuple a its.toArray from p) (by simp; lia) fun h' eb => ⟨rfl, I.turned (t' := s.toks) (fun b o hb e => eb b o hb e) f0 f1 f3 f4 f5⟩
 self := fun _ _ _ _ _ st h => wpAny_pyIter_tupleiter st h
theorem SH {P : Program} {w : World} {K : W.Frag} {tg : Expr} (it : Addr) (lo : Int) (n : Nat) : Tv P w K tg (Itr lo n) [it] it (fun i h => IsRangeIter h it (lo + (i : Nat) * 1) ((n : Int) - (i : Nat)) 1) where
 mem := by simp
 obj := fun i h st b hb => by
  have e : b = it := by simpa using hb
  subst e
  exact ⟨_, st, fun v z => by
   have z' : Data.fields _ = Data.cell v := z
   cases z'⟩
 keep := fun i h h' st k => k it (by simp) _ st
 item := by
  intro X hP hw hK hc i pins s σ H E I hf st hg
  subst hP hw hK
  obtain ⟨f0, f1, f2, f3, f4, f5⟩ := hf it (by simp)
  have W := Walks.range (prog := X.prog) (w := X.w) (I.ok.hd hc) it lo 1 n
  refine W.item i s _ _ hg st fun v h' tk hv st' kk => ?_
  obtain ⟨t, rfl⟩ := hv
  have I1 : Inv X pins σ H { s with heap := h', toks := tk } := I.turned (fun b o hb e => kk b o (by simpa using hb) e) f0 f1 f3 f4 f5
  refine ⟨_, rfl, VS (s := { s with heap := h', toks := tk }) (n := "range_iterator") st' rfl rfl (by decide) ⟨.int (lo + i), H, I1, ⟨t, ?_⟩, ⟨rfl, rfl⟩, st', fun b hb => (hf b hb).1⟩⟩
  rw [Int.mul_one]
 done := by
  intro X hP hw hK hc i pins s σ H E I hf st hg
  subst hP hw hK
  obtain ⟨f0, f1, f2, f3, f4, f5⟩ := hf it (by simp)
  exact wpAny_pyNext_range_end (I.ok.hd hc) st (by have : n ≤ i := hg; lia) fun h' eb => ⟨rfl, I.turned (t' := s.toks) (fun b o hb e => eb b o hb e) f0 f1 f3 f4 f5⟩
 self := fun _ _ _ _ _ st h => wpAny_pyIter_rangeiter st h
section
variable {X : Cx} {tg : Expr}
noncomputable def KJ (K : W.Frag) (tl : TE) : TI := fun σ H R => tl σ H fun x H1 => ∃ a, x = .ref a ∧ (∃ xs, SqL K H1 a xs) ∧ R (Itl K a) H1
noncomputable def iTup (K : W.Frag) (tl : TE) : TI := fun σ H R => tl σ H fun x H1 => ∃ a, x = .ref a ∧ (∃ xs, SqT K H1 a xs) ∧ R (Itt K a) H1
theorem B4 {l : Expr} {tl : TE} (hl : PE X l tl) : PI X tg l (KJ X.K tl) := by
 intro pins s σ H R I h
 refine thn (hl pins s σ H _ I h) fun v s1 zq => ?_
 obtain ⟨x, H1, I1, r1, q1⟩ := zq
 obtain ⟨a, e, ⟨xs, hq⟩, q⟩ := q1
 subst e
 cases r1
 obtain ⟨its, rv, p, hz⟩ := I1.list hq
 refine wpAny_pyIter_list p.isList ?_
 refine ⟨s1.heap.objs.size, [s1.heap.objs.size], _, _, H1, rfl, I1.kept (t' := s1.toks) fun b o e => zB _ e, UZ a _, ⟨_, zY _ rfl, rfl, rfl⟩, fun b hb => ?_, q⟩
 have e : b = s1.heap.objs.size := by simpa using hb
 subst e
 exact I1.fpOk (zG _) (I1.hok.fresh (zG _))
theorem VQ {l : Expr} {tl : TE} (hl : PE X l tl) : PI X tg l (iTup X.K tl) := by
 intro pins s σ H R I h
 refine thn (hl pins s σ H _ I h) fun v s1 zq => ?_
 obtain ⟨x, H1, I1, r1, q1⟩ := zq
 obtain ⟨a, e, ⟨xs, hq⟩, q⟩ := q1
 subst e
 cases r1
 obtain ⟨its, rv, p, hz⟩ := I1.tuple hq
 refine wpAny_pyIter_tuple (show s1.heap.IsTuple a its.toArray from p) ?_
 refine ⟨s1.heap.objs.size, [s1.heap.objs.size], _, _, H1, rfl, I1.kept (t' := s1.toks) fun b o e => zB _ e, SQ a _, ⟨_, zY _ rfl, rfl, rfl⟩, fun b hb => ?_, q⟩
 have e : b = s1.heap.objs.size := by simpa using hb
 subst e
 exact I1.fpOk (zG _) (I1.hok.fresh (zG _))
theorem Rg {pins : List (Addr × Obj)} {σ : St} {H : Hp} {s : Shared} {R : It → Hp → Prop} {E : Value → Shared → Prop} {lo hi : Int} {t u v : Tok} {tk : Nat} (I : Inv X pins σ H s) (h1 : -(2 ^ 62) ≤ lo) (h2 : lo < 2 ^ 62) (h3 : -(2 ^ 62) ≤ hi) (h4 : hi < 2 ^ 62)
  (q : R (Itr lo (hi - lo).toNat) H) : wpAny (model X.prog X.w) X.A (pyIter (.ref s.heap.objs.size)) (PIE X pins σ tg R) E { s with heap := s.heap.push { cls := .type "range", data := .fields #[.int lo t, .int hi u, .int 1 v] }, toks := tk } := by
 refine wpAny_pyIter_range (IsRange.new ..) (small_one h1 h2 h3 h4) ?_
 have I1 : Inv X pins σ H { s with heap := s.heap.push { cls := .type "range", data := .fields #[.int lo t, .int hi u, .int 1 v] }, toks := tk } := I.kept fun b o e => zB _ e
 refine ⟨(s.heap.push { cls := .type "range", data := .fields #[.int lo t, .int hi u, .int 1 v] }).objs.size, [(s.heap.push { cls := .type "range", data := .fields #[.int lo t, .int hi u, .int 1 v] }).objs.size], _, _, H, rfl,
  I1.kept (t' := tk) fun b o e => zB _ e, SH _ lo (hi - lo).toNat, ?_, fun b hb => ?_, q⟩
 ·have e1 : lo + ((0 : Nat) : Int) * 1 = lo := by simp
  have e2 : (((hi - lo).toNat : Nat) : Int) - ((0 : Nat) : Int) = Builtin.Range.rangeSize lo hi 1 := by rw [rangeSize_one]; split <;> lia
  show IsRangeIter _ _ (lo + ((0 : Nat) : Int) * 1) ((((hi - lo).toNat : Nat) : Int) - ((0 : Nat) : Int)) 1
  rw [e1, e2]
  exact zY _ rfl
 ·have e : b = (s.heap.push { cls := .type "range", data := .fields #[.int lo t, .int hi u, .int 1 v] }).objs.size := by simpa using hb
  subst e
  exact I1.fpOk (zG _) (I1.hok.fresh (zG _))
noncomputable def Hv (ta : TA) : TI := fun σ H R => ta σ H fun vs H1 => ∃ j : Int, vs = [.int j] ∧ -(2 ^ 62) ≤ j ∧ j < 2 ^ 62 ∧ R (Itr 0 j.toNat) H1
noncomputable def IS (ta : TA) : TI := fun σ H R => ta σ H fun vs H1 => ∃ i j : Int, vs = [.int i, .int j] ∧ (-(2 ^ 62) ≤ i ∧ i < 2 ^ 62 ∧ -(2 ^ 62) ≤ j ∧ j < 2 ^ 62) ∧ R (Itr i (j - i).toNat) H1
theorem Bo {a : Expr} {ta : TA} {p pos : Pos} (hg : Gl X "range") (hm : X.mg "range" = none) (ha : PA X [a] ta) (hs : starEach [a] X.env = [(false, eval a X.env)] := by rfl) : PI X tg (.Call (.Name "range" p) [a] [] pos) (Hv ta) := by
 intro pins s σ H R I h
 refine Call_ (Jj I hg hm boot_range (PyProof.Rows.callWith_type1 (thn (ha pos pins s σ H _ I h) fun us s1 zq => ?_) hs rfl))
 obtain ⟨vs, H1, I1, r1, q1⟩ := zq
 obtain ⟨j, e, q1, q2, q⟩ := q1
 subst e
 cases r1 with
 | cons r rr =>
  cases rr
  obtain ⟨t, rfl⟩ := r
  exact call_range_1 (Rg I1 (by lia) (by lia) q1 q2 (by simpa using q))
theorem Lj {a b : Expr} {ta : TA} {p pos : Pos} (hg : Gl X "range") (hm : X.mg "range" = none) (ha : PA X [a, b] ta) (hs : starEach [a, b] X.env = [(false, eval a X.env), (false, eval b X.env)] := by rfl) (hs2 : starEach [b] X.env = [(false, eval b X.env)] := by rfl) :
  PI X tg (.Call (.Name "range" p) [a, b] [] pos) (IS ta) := by
 intro pins s σ H R I h
 refine Call_ (Jj I hg hm boot_range (PyProof.Rows.callWith_type1 (thn (ha pos pins s σ H _ I h) fun us s1 zq => ?_) (by rw [hs, hs2]) (by rw [hs2]; rfl)))
 obtain ⟨vs, H1, I1, r1, q1⟩ := zq
 obtain ⟨i, j, e, ⟨q1, q2, q3, q4⟩, q⟩ := q1
 subst e
 cases r1 with
 | cons r rr =>
  cases rr with
  | cons r' rr =>
   cases rr
   obtain ⟨t, rfl⟩ := r
   obtain ⟨t', rfl⟩ := r'
   exact call_range_2 (Rg I1 q1 q2 q3 q4 q)
noncomputable def tFor (wi : TI) (g : TG) (tb : TS) : TS := fun D σ H => wi σ H fun J H1 => ∃ W : Nat → Nat → St → Hp → Prop, (∃ m, W 0 m σ H1) ∧ ∀ i m σ H, W i m σ H →
 (J.stop i H ∧ D.nx σ H) ∨ (J.go i H ∧ ∃ N : St → Hp → Prop, (∀ σ' H', N σ' H' → ∃ m', m' < m ∧ W (i + 1) m' σ' H') ∧ ∀ x H', J.yld i H x H' → g x σ H' fun σ2 H2 => tb { D with nx := N, ct := N, bk := D.nx } σ2 H2)
noncomputable def Np (fp : List Addr) (h : Heap) : List (Addr × Obj) := fp.filterMap fun b => (h.get? b).map fun o => (b, o)
theorem Fq {fp : List Addr} {h : Heap} {b : Addr} {o : Obj} (hb : b ∈ fp) (e : h.get? b = some o) : (b, o) ∈ Np fp h := List.mem_filterMap.mpr ⟨b, hb, by rw [e]; rfl⟩
theorem Ts {fp : List Addr} {h : Heap} {p : Addr × Obj} (hp : p ∈ Np fp h) : p.1 ∈ fp ∧ h.get? p.1 = some p.2 := by
 obtain ⟨b, hb, e⟩ := List.mem_filterMap.mp hp
 cases q : h.get? b with
 | none => rw [q] at e; cases e
 | some o =>
  rw [q] at e
  have e' : (b, o) = p := zN e
  subst e'
  exact ⟨hb, q⟩
theorem Inv.pinned {pins : List (Addr × Obj)} {σ : St} {H : Hp} {s : Shared} {fp : List Addr} (I : Inv X pins σ H s) (hf : ∀ b ∈ fp, ML X pins H b) (ho : ∀ b ∈ fp, ∃ o, s.heap.get? b = some o ∧ ∀ v, o.data ≠ .cell v) : Inv X (pins ++ Np fp s.heap) σ H s :=
 I.pins_of fun p hp => (zb.mp hp).elim (fun z => I.pin p (zc _ z)) fun z => by
  obtain ⟨hb, e⟩ := Ts z
  obtain ⟨f0, f1, f2, _⟩ := hf p.1 hb
  obtain ⟨o, e', d⟩ := ho p.1 hb
  rw [e] at e'; cases e'
  exact ⟨e, f0, f1, f2, d⟩
theorem Inv.unpinned {pins pl : List (Addr × Obj)} {σ : St} {H : Hp} {s : Shared} (I : Inv X (pins ++ pl) σ H s) : Inv X pins σ H s := I.pins_of fun p hp => I.pin p (zc _ (zz _ hp))
theorem BO {iter : Expr} {body : List Stmt} {wi : TI} {g : TG} {tb : TS} {pos : Pos} (hp : PassesOwn (model X.prog X.w) X.A X.env X.xe) (hc : X.calm = true) (hi : PI X tg iter wi) (hg : PG X tg g) (hb : PSs X body tb)
  (hs : ∀ x, foldedSetIterable iter X.env x = pure x := by intro _; rfl) : PS X (.For tg iter body [] pos) (tFor wi g tb) := by
 intro pins s σ H D I h
 refine wpAny_For (thn (hi pins s σ H _ I h) fun v s1 h1 => thn h1 fun itv s2 h2 => ?_) hs
 obtain ⟨it, fp, tn, J, H2, e, I2, T, st2, f2, W, ⟨m0, w0⟩, turn⟩ := h2
 subst e
 have stat : ∀ {H' : Hp}, (∀ b ∈ fp, H' b = none) → ∀ b ∈ fp, ML X pins H' b := fun hn b hb => ⟨hn b hb, (f2 b hb).2⟩
 refine codeAny_forLoop_any (fun n s' => ∃ i σ' H', Inv X pins σ' H' s' ∧ tn i s'.heap ∧ (∀ b ∈ fp, H' b = none) ∧ W i n σ' H') ?_ m0 ⟨0, σ, H2, I2, st2, fun b hb => (f2 b hb).1, w0⟩
 rintro n s3 ⟨i, σ3, H3, I3, st3, fr3, w3⟩
 rcases turn i n σ3 H3 w3 with ⟨stop, qn⟩ | ⟨go, N, hN, step⟩
 ·refine wpAny_passesOwn hp (thn (T.done X rfl rfl rfl hc i pins s3 σ3 H3 X.xe I3 (stat fr3) st3 stop) fun r s4 zq => ?_)
  obtain ⟨hr, I4⟩ := zq
  subst hr
  exact wpAny_execs_nil ⟨σ3, H3, I4, qn⟩
 ·refine wpAny_passesOwn hp (thn (T.item X rfl rfl rfl hc i pins s3 σ3 H3 X.xe I3 (stat fr3) st3 go) fun r s4 zq => ?_)
  obtain ⟨u, hr, h4⟩ := zq
  subst hr
  refine wpAny_passesOwn hp (thn h4 fun _ s5 zq => ?_)
  obtain ⟨x, H5, I5, r5, y5, st5, fr5⟩ := zq
  have I5' := I5.pinned (stat fr5) (T.obj _ _ st5)
  refine wpAny_passesOwn hp (thn (hg _ s5 σ3 H5 x u _ I5' r5 (step x H5 y5)) fun _ s6 zq => ?_)
  obtain ⟨σ6, H6, I6, q6⟩ := zq
  refine wpAny_passesOwn hp (thn (hb _ s6 σ6 H6 _ I6 q6) fun f s7 q7 => ?_)
  have again : ∀ {σ7 : St} {H7 : Hp}, Inv X (pins ++ Np fp s5.heap) σ7 H7 s7 → N σ7 H7 → ∃ m, m < n ∧ ∃ i σ' H', Inv X pins σ' H' s7 ∧ tn i s7.heap ∧ (∀ b ∈ fp, H' b = none) ∧ W i m σ' H' := fun {σ7 H7} I7 n7 => by
   obtain ⟨m', hm, w7⟩ := hN σ7 H7 n7
   refine ⟨m', hm, i + 1, σ7, H7, I7.unpinned, T.keep _ _ _ st5 fun b hb o e => (I7.pin (b, o) (zc _ (zc _ (Fq hb e)))).1, fun b hb => ?_, w7⟩
   obtain ⟨o, e, d⟩ := T.obj _ _ st5 b hb
   exact (I7.pin (b, o) (zc _ (zc _ (Fq hb e)))).2.1
  cases f with
  | next => obtain ⟨σ7, H7, I7, n7⟩ := q7; exact again I7 n7
  | cont => obtain ⟨σ7, H7, I7, n7⟩ := q7; exact again I7 n7
  | brk => obtain ⟨σ7, H7, I7, q7⟩ := q7; exact ⟨σ7, H7, I7.unpinned, q7⟩
  | ret v => obtain ⟨x7, σ7, H7, I7, r7, q7⟩ := q7; exact ⟨x7, σ7, H7, I7.unpinned, r7, q7⟩
end
theorem HF {K : W.Frag} {a : Addr} {xs : List V} {g : TG} {tb : TS} {D : Gn} {σ : St} {H : Hp} (Pv : Nat → St → Hp → Prop) (h0 : Pv 0 σ H) (hl : ∀ i σ H, i ≤ xs.length → Pv i σ H → SqL K H a xs)
  (hs : ∀ i x σ H, xs[i]? = some x → Pv i σ H → g x σ H fun σ2 H2 => tb { D with nx := Pv (i + 1), ct := Pv (i + 1), bk := D.nx } σ2 H2) (hd : ∀ σ H, Pv xs.length σ H → D.nx σ H) :
  ∃ W : Nat → Nat → St → Hp → Prop, (∃ m, W 0 m σ H) ∧ ∀ i m σ H, W i m σ H →
   ((Itl K a).stop i H ∧ D.nx σ H) ∨ ((Itl K a).go i H ∧ ∃ N : St → Hp → Prop, (∀ σ' H', N σ' H' → ∃ m', m' < m ∧ W (i + 1) m' σ' H') ∧ ∀ x H', (Itl K a).yld i H x H' → g x σ H' fun σ2 H2 => tb { D with nx := N, ct := N, bk := D.nx } σ2 H2) := by
 refine ⟨fun i m σ H => m = xs.length - i ∧ i ≤ xs.length ∧ Pv i σ H, ⟨xs.length, by simp, zi _, h0⟩, ?_⟩
 rintro i m σ H ⟨rfl, hi, p⟩
 have q := hl i σ H hi p
 by_cases hlt : i < xs.length
 ·refine .inr ⟨⟨xs, xs[i], q, by simp [hlt]⟩, Pv (i + 1), fun σ' H' p' => ⟨xs.length - (i + 1), by lia, rfl, hlt, p'⟩, fun x H' y => ?_⟩
  obtain ⟨e, y⟩ := y
  subst e
  exact hs i x σ _ (y xs q) p
 ·have e : i = xs.length := by lia
  subst e
  exact .inl ⟨⟨xs, q, zG _⟩, hd σ H p⟩
theorem S2 {K : W.Frag} {a : Addr} {xs : List V} {g : TG} {tb : TS} {D : Gn} {σ : St} {H : Hp} (Pv : Nat → St → Hp → Prop) (h0 : Pv 0 σ H) (hl : ∀ i σ H, i ≤ xs.length → Pv i σ H → SqT K H a xs)
  (hs : ∀ i x σ H, xs[i]? = some x → Pv i σ H → g x σ H fun σ2 H2 => tb { D with nx := Pv (i + 1), ct := Pv (i + 1), bk := D.nx } σ2 H2) (hd : ∀ σ H, Pv xs.length σ H → D.nx σ H) :
  ∃ W : Nat → Nat → St → Hp → Prop, (∃ m, W 0 m σ H) ∧ ∀ i m σ H, W i m σ H →
   ((Itt K a).stop i H ∧ D.nx σ H) ∨ ((Itt K a).go i H ∧ ∃ N : St → Hp → Prop, (∀ σ' H', N σ' H' → ∃ m', m' < m ∧ W (i + 1) m' σ' H') ∧ ∀ x H', (Itt K a).yld i H x H' → g x σ H' fun σ2 H2 => tb { D with nx := N, ct := N, bk := D.nx } σ2 H2) := by
 refine ⟨fun i m σ H => m = xs.length - i ∧ i ≤ xs.length ∧ Pv i σ H, ⟨xs.length, by simp, zi _, h0⟩, ?_⟩
 rintro i m σ H ⟨rfl, hi, p⟩
 have q := hl i σ H hi p
 by_cases hlt : i < xs.length
 ·refine .inr ⟨⟨xs, xs[i], q, by simp [hlt]⟩, Pv (i + 1), fun σ' H' p' => ⟨xs.length - (i + 1), by lia, rfl, hlt, p'⟩, fun x H' y => ?_⟩
  obtain ⟨e, y⟩ := y
  subst e
  exact hs i x σ _ (y xs q) p
 ·have e : i = xs.length := by lia
  subst e
  exact .inl ⟨⟨xs, q, zG _⟩, hd σ H p⟩
theorem BK {lo : Int} {n : Nat} {g : TG} {tb : TS} {D : Gn} {σ : St} {H : Hp} (Pv : Nat → St → Hp → Prop) (h0 : Pv 0 σ H)
  (hs : ∀ i σ H, i < n → Pv i σ H → g (.int (lo + i)) σ H fun σ2 H2 => tb { D with nx := Pv (i + 1), ct := Pv (i + 1), bk := D.nx } σ2 H2) (hd : ∀ σ H, Pv n σ H → D.nx σ H) :
  ∃ W : Nat → Nat → St → Hp → Prop, (∃ m, W 0 m σ H) ∧ ∀ i m σ H, W i m σ H →
   ((Itr lo n).stop i H ∧ D.nx σ H) ∨ ((Itr lo n).go i H ∧ ∃ N : St → Hp → Prop, (∀ σ' H', N σ' H' → ∃ m', m' < m ∧ W (i + 1) m' σ' H') ∧ ∀ x H', (Itr lo n).yld i H x H' → g x σ H' fun σ2 H2 => tb { D with nx := N, ct := N, bk := D.nx } σ2 H2) := by
 refine ⟨fun i m σ H => m = n - i ∧ i ≤ n ∧ Pv i σ H, ⟨n, by simp, zi _, h0⟩, ?_⟩
 rintro i m σ H ⟨rfl, hi, p⟩
 by_cases hlt : i < n
 ·refine .inr ⟨hlt, Pv (i + 1), fun σ' H' p' => ⟨n - (i + 1), by lia, rfl, hlt, p'⟩, fun x H' y => ?_⟩
  obtain ⟨e, y⟩ := y
  subst e y
  exact hs i σ _ hlt p
 ·have e : i = n := by lia
  subst e
  exact .inl ⟨zG _, hd σ H p⟩
noncomputable abbrev R2 := V → V → Hp → VK → Prop
noncomputable def OpR (X : Cx) (f : Value → Value → Sem Value) (r : R2) : Prop :=
 ∀ (pins : List (Addr × Obj)) (s : Shared) (σ : St) (H : Hp) (x y : V) (v u : Value) (Q : VK), Inv X pins σ H s → RelV x v → RelV y u → r x y H Q →
  wpAny (model X.prog X.w) X.A (f v u) (EP X pins σ Q) X.xe s
noncomputable def UnR (X : Cx) (f : Value → Sem Value) (r : V → Hp → VK → Prop) : Prop :=
 ∀ (pins : List (Addr × Obj)) (s : Shared) (σ : St) (H : Hp) (x : V) (v : Value) (Q : VK), Inv X pins σ H s → RelV x v → r x H Q →
  wpAny (model X.prog X.w) X.A (f v) (EP X pins σ Q) X.xe s
noncomputable def Bl (X : Cx) (f : Value) (r : List V → Hp → VK → Prop) : Prop :=
 ∀ (pins : List (Addr × Obj)) (s : Shared) (σ : St) (H : Hp) (xs : List V) (us : List Value) (Q : VK), Inv X pins σ H s → Al xs us → r xs H Q →
  wpAny (model X.prog X.w) X.A (call f us) (EP X pins σ Q) X.xe s
noncomputable def tOp (r : R2) (ta tb : TE) : TE := fun σ H Q => ta σ H fun x H1 => tb σ H1 fun y H2 => r x y H2 Q
noncomputable def tUn (r : V → Hp → VK → Prop) (ta : TE) : TE := fun σ H Q => ta σ H fun x H1 => r x H1 Q
noncomputable def rI (C : Int → Int → Prop) (g : Int → Int → V) : R2 := fun x y H Q => ∃ i j, x = .int i ∧ y = .int j ∧ C i j ∧ Q (g i j) H
noncomputable def rI0 (g : Int → Int → V) : R2 := fun x y H Q => ∃ i j, x = .int i ∧ y = .int j ∧ Q (g i j) H
noncomputable def rU (g : Int → V) : V → Hp → VK → Prop := fun x H Q => ∃ i, x = .int i ∧ Q (g i) H
section
variable {X : Cx} {a b c : Expr} {ta tb tc : TE} {pos : Pos}
theorem Yg (ha : PE X a ta) (hb : PE X b tb) {pins : List (Addr × Obj)} {s : Shared} {σ : St} {H : Hp} {R : V → V → Hp → Prop} (I : Inv X pins σ H s)
  (h : ta σ H fun x H1 => tb σ H1 fun y H2 => R x y H2) {Q : Value → Shared → Prop} {f : Value → Value → Sem Value}
  (hf : ∀ v u s2 x y H2, Inv X pins σ H2 s2 → RelV x v → RelV y u → R x y H2 → wpAny (model X.prog X.w) X.A (f v u) Q X.xe s2) :
  wpAny (model X.prog X.w) X.A (eval a X.env) (fun v s₁ => wpAny (model X.prog X.w) X.A (eval b X.env) (fun u s₂ => wpAny (model X.prog X.w) X.A (f v u) Q X.xe s₂) X.xe s₁) X.xe s := by
 refine thn (ha pins s σ H _ I h) fun v s1 zq => ?_
 obtain ⟨x, H1, I1, r1, q1⟩ := zq
 refine thn (hb pins s1 σ H1 _ I1 q1) fun u s2 zq => ?_
 obtain ⟨y, H2, I2, r2, q2⟩ := zq
 exact hf v u s2 x y H2 I2 r1 r2 q2
theorem AF {op : Operator} {r : R2} (ho : OpR X (binaryOp op) r) (ha : PE X a ta) (hb : PE X b tb) : PE X (.BinOp a op b pos) (tOp r ta tb) := by
 intro pins s σ H Q I h
 exact wpAny_BinOp (Yg ha hb I h fun v u s2 x y H2 I2 rx ry q => ho pins s2 σ H2 x y v u Q I2 rx ry q)
theorem Ci {op : UnaryOp} {r : V → Hp → VK → Prop} (ho : UnR X (unaryOp op) r) (ha : PE X a ta) : PE X (.UnaryOp op a pos) (tUn r ta) := by
 intro pins s σ H Q I h
 exact UnaryOp_ (thn (ha pins s σ H _ I h) fun v s1 ⟨x, H1, I1, r1, q1⟩ => ho pins s1 σ H1 x v Q I1 r1 q1)
theorem opI {f : Value → Value → Sem Value} {C : Int → Int → Prop} {g : Int → Int → Int}
  (rule : ∀ (i j : Int) (t u : Tok) (s : Shared) (Q : Value → Shared → Prop) (E : Value → Shared → Prop), C i j → Q (.int (g i j) s.toks) { s with toks := s.toks + 1 } → wpAny (model X.prog X.w) X.A (f (.int i t) (.int j u)) Q E s) :
  OpR X f (rI C fun i j => .int (g i j)) := by
 intro pins s σ H x y v u Q I rx ry h
 obtain ⟨i, j, rfl, rfl, hc, q⟩ := h
 obtain ⟨t, rfl⟩ := rx
 obtain ⟨t', rfl⟩ := ry
 exact rule i j t t' s _ _ hc ⟨.int (g i j), H, I.tok _, ⟨_, rfl⟩, q⟩
theorem opI0 {f : Value → Value → Sem Value} {g : Int → Int → Int}
  (rule : ∀ (i j : Int) (t u : Tok) (s : Shared) (Q : Value → Shared → Prop) (E : Value → Shared → Prop), Q (.int (g i j) s.toks) { s with toks := s.toks + 1 } → wpAny (model X.prog X.w) X.A (f (.int i t) (.int j u)) Q E s) :
  OpR X f (rI0 fun i j => .int (g i j)) := by
 intro pins s σ H x y v u Q I rx ry h
 obtain ⟨i, j, rfl, rfl, q⟩ := h
 obtain ⟨t, rfl⟩ := rx
 obtain ⟨t', rfl⟩ := ry
 exact rule i j t t' s _ _ ⟨.int (g i j), H, I.tok _, ⟨_, rfl⟩, q⟩
theorem W4 {f : Value → Value → Sem Value} {g : Int → Int → Bool}
  (rule : ∀ (i j : Int) (t u : Tok) (s : Shared) (Q : Value → Shared → Prop) (E : Value → Shared → Prop), Q (.bool (g i j)) s → wpAny (model X.prog X.w) X.A (f (.int i t) (.int j u)) Q E s) :
  OpR X f (rI0 fun i j => .bl (g i j)) := by
 intro pins s σ H x y v u Q I rx ry h
 obtain ⟨i, j, rfl, rfl, q⟩ := h
 obtain ⟨t, rfl⟩ := rx
 obtain ⟨t', rfl⟩ := ry
 exact rule i j t t' s _ _ ⟨.bl (g i j), H, I, rfl, q⟩
noncomputable def Rr (i j : Int) : Prop := 0 < j ∧ j < 1073741824
noncomputable def Ru (i j : Int) : Prop := 0 ≤ j ∧ j ≤ 1000000 ∧ i.natAbs < 2 ^ 64
noncomputable def QK (i j : Int) : Prop := (-(2 ^ 64) < i ∧ i < 2 ^ 64) ∨ (-(2 ^ 64) < j ∧ j < 2 ^ 64)
theorem QK.ok {i j : Int} (h : QK i j) : IntMulOk i j := by
 rcases h with ⟨h1, h2⟩ | ⟨h1, h2⟩
 ·exact .of_left (intBits_le_64 h1 h2)
 ·exact .of_right (intBits_le_64 h1 h2)
theorem Ag : OpR X (binaryOp .Add) (rI0 fun i j => .int (i + j)) := opI0 fun _ _ _ _ _ _ _ q => add_int q
theorem Aa : OpR X (binaryOp .Sub) (rI0 fun i j => .int (i - j)) := opI0 fun _ _ _ _ _ _ _ q => sub_int q
theorem Jq : OpR X (binaryOp .Mult) (rI QK fun i j => .int (i * j)) := opI fun _ _ _ _ _ _ _ hc q => mul_int q hc.ok
theorem BM : OpR X (binaryOp .FloorDiv) (rI Rr fun i j => .int (i / j)) := opI fun i j _ _ _ _ _ hc q => by
 have h1 : (0 : Int) < j := hc.1
 have h2 : j < 1073741824 := hc.2
 exact floordiv_int (by lia) (by rw [Int.fdiv_eq_ediv_of_nonneg i (by lia)]; exact q) (.inl (PyProof.noPylong_small (by lia)))
theorem AX : OpR X (binaryOp .Mod) (rI (fun _ j => 0 < j) fun i j => .int (i % j)) := opI fun i j _ _ _ _ _ hc q => by
 have h1 : (0 : Int) < j := hc
 exact mod_int' (by lia) (by rw [Int.fmod_eq_emod_of_nonneg i (by lia)]; exact q)
theorem WZ : OpR X (binaryOp .Mod) (rI (fun _ j => j ≠ 0) fun i j => .int (i.fmod j)) := opI fun _ _ _ _ _ _ _ hc q => mod_int' hc q
theorem SA : OpR X (binaryOp .Pow) (rI Ru fun i j => .int (i ^ j.toNat)) := opI fun _ _ _ _ _ _ _ hc q => pow_int_small hc.1 hc.2.1 hc.2.2 q
theorem unI {f : Value → Sem Value} {g : Int → Int}
  (rule : ∀ (i : Int) (t : Tok) (s : Shared) (Q : Value → Shared → Prop) (E : Value → Shared → Prop), Q (.int (g i) s.toks) { s with toks := s.toks + 1 } → wpAny (model X.prog X.w) X.A (f (.int i t)) Q E s) :
  UnR X f (rU fun i => .int (g i)) := by
 intro pins s σ H x v Q I rx h
 obtain ⟨i, rfl, q⟩ := h
 obtain ⟨t, rfl⟩ := rx
 exact rule i t s _ _ ⟨.int (g i), H, I.tok _, ⟨_, rfl⟩, q⟩
theorem Bp : UnR X (unaryOp .USub) (rU fun i => .int (-i)) := unI fun _ _ _ _ _ q => neg_int q
end
noncomputable def knd : V → Nat
 | .non => 0 | .int _ => 1 | .bl _ => 2 | .str _ => 3 | .byt _ => 4 | _ => 5
noncomputable def HV (x y : V) : Bool := (knd x == knd y && Nat.blt (knd x) 5) || (Nat.blt (knd x) 4 && Nat.blt (knd y) 4 && knd x * knd y != 2)
noncomputable def rEq : R2 := fun x y H Q => HV x y = true ∧ Q (.bl (decide (x = y))) H
noncomputable def rNe : R2 := fun x y H Q => HV x y = true ∧ Q (.bl (!decide (x = y))) H
theorem TV {i j : Int} : decide (V.int i = V.int j) = (i == j) := by
 rw [Bool.eq_iff_iff]
 simp
theorem Uu {i j : Bool} : decide (V.bl i = V.bl j) = (i == j) := by
 rw [Bool.eq_iff_iff]
 simp
theorem TF {i j : Str} : decide (V.str i = V.str j) = (i == j) := by
 rw [Bool.eq_iff_iff]
 simp
theorem S6 {i j : Array UInt8} : decide (V.byt i = V.byt j) = (i.toList == j.toList) := by
 rw [Bool.eq_iff_iff]
 cases i
 cases j
 simp
section
variable {X : Cx} {a b c : Expr} {ta tb tc : TE} {pos : Pos}
theorem At {pins : List (Addr × Obj)} {σ : St} {H : Hp} {s : Shared} {Q : VK} {k k' : Bool} (I : Inv X pins σ H s) (q : Q (.bl k) H) (e : k = k') : EP X pins σ Q (.bool k') s := by
 subst e
 exact ⟨.bl k, H, I, rfl, q⟩
theorem Au : OpR X (compareOp .Eq) rEq := by
 intro pins s σ H x y v u Q I rx ry h
 obtain ⟨hs, q⟩ := h
 cases x with
 | non =>
  cases rx
  cases y with
  | non => cases ry; exact PySem.EqNone.eq_none_none (At I q (by simp))
  | bl j => cases ry; exact PySem.EqNone.eq_none_bool (At I q (by simp))
  | int j => obtain ⟨t', rfl⟩ := ry; exact PySem.EqNone.eq_none_int (At I q (by simp))
  | str j => obtain ⟨t', rfl⟩ := ry; exact PySem.EqNone.eq_none_str (At I q (by simp))
  | _ => exact absurd (show false = true from hs) zS
 | bl i =>
  cases rx
  cases y with
  | non => cases ry; exact PySem.EqNone.eq_bool_none (At I q (by simp))
  | bl j => cases ry; exact eq_bool (At I q Uu)
  | str j => obtain ⟨t', rfl⟩ := ry; exact PySem.EqMixed.eq_bool_str (At I q (by simp))
  | _ => exact absurd (show false = true from hs) zS
 | int i =>
  obtain ⟨t, rfl⟩ := rx
  cases y with
  | non => cases ry; exact PySem.EqNone.eq_int_none (At I q (by simp))
  | int j => obtain ⟨t', rfl⟩ := ry; exact eq_int (At I q TV)
  | str j => obtain ⟨t', rfl⟩ := ry; exact PySem.EqMixed.eq_int_str (At I q (by simp))
  | _ => exact absurd (show false = true from hs) zS
 | str i =>
  obtain ⟨t, rfl⟩ := rx
  cases y with
  | non => cases ry; exact PySem.EqNone.eq_str_none (At I q (by simp))
  | bl j => cases ry; exact PySem.EqMixed.eq_str_bool (At I q (by simp))
  | int j => obtain ⟨t', rfl⟩ := ry; exact PySem.EqMixed.eq_str_int (At I q (by simp))
  | str j => obtain ⟨t', rfl⟩ := ry; exact eq_str (At I q TF)
  | _ => exact absurd (show false = true from hs) zS
 | byt i =>
  obtain ⟨t, rfl⟩ := rx
  cases y with
  | byt j => obtain ⟨t', rfl⟩ := ry; exact W.eq_bytes (At I q S6)
  | _ => exact absurd (show false = true from hs) zS
 | _ => cases y <;> exact absurd (show false = true from hs) zS
theorem GK : OpR X (compareOp .NotEq) rNe := by
 intro pins s σ H x y v u Q I rx ry h
 obtain ⟨hs, q⟩ := h
 cases x with
 | non =>
  cases rx
  cases y with
  | non => cases ry; exact PySem.EqNone.ne_none_none (At I q (by simp))
  | bl j => cases ry; exact PySem.EqNone.ne_none_bool (At I q (by simp))
  | int j => obtain ⟨t', rfl⟩ := ry; exact PySem.EqNone.ne_none_int (At I q (by simp))
  | str j => obtain ⟨t', rfl⟩ := ry; exact PySem.EqNone.ne_none_str (At I q (by simp))
  | _ => exact absurd (show false = true from hs) zS
 | bl i =>
  cases rx
  cases y with
  | non => cases ry; exact PySem.EqNone.ne_bool_none (At I q (by simp))
  | bl j => cases ry; exact ne_bool (At I q (congrArg not Uu))
  | str j => obtain ⟨t', rfl⟩ := ry; exact PySem.EqMixed.ne_bool_str (At I q (by simp))
  | _ => exact absurd (show false = true from hs) zS
 | int i =>
  obtain ⟨t, rfl⟩ := rx
  cases y with
  | non => cases ry; exact PySem.EqNone.ne_int_none (At I q (by simp))
  | int j => obtain ⟨t', rfl⟩ := ry; exact ne_int (At I q (congrArg not TV))
  | str j => obtain ⟨t', rfl⟩ := ry; exact PySem.EqMixed.ne_int_str (At I q (by simp))
  | _ => exact absurd (show false = true from hs) zS
 | str i =>
  obtain ⟨t, rfl⟩ := rx
  cases y with
  | non => cases ry; exact PySem.EqNone.ne_str_none (At I q (by simp))
  | bl j => cases ry; exact PySem.EqMixed.ne_str_bool (At I q (by simp))
  | int j => obtain ⟨t', rfl⟩ := ry; exact PySem.EqMixed.ne_str_int (At I q (by simp))
  | str j => obtain ⟨t', rfl⟩ := ry; exact ne_str (At I q (congrArg not TF))
  | _ => exact absurd (show false = true from hs) zS
 | byt i =>
  obtain ⟨t, rfl⟩ := rx
  cases y with
  | byt j => obtain ⟨t', rfl⟩ := ry; exact W.ne_bytes (At I q (congrArg not S6))
  | _ => exact absurd (show false = true from hs) zS
 | _ => cases y <;> exact absurd (show false = true from hs) zS
theorem Ee : OpR X (compareOp .Lt) (rI0 fun i j => .bl (decide (i < j))) := W4 fun _ _ _ _ _ _ _ q => lt_int q
theorem Qr : OpR X (compareOp .LtE) (rI0 fun i j => .bl (decide (i ≤ j))) := W4 fun _ _ _ _ _ _ _ q => le_int q
theorem DI : OpR X (compareOp .Gt) (rI0 fun i j => .bl (decide (j < i))) := W4 fun _ _ _ _ _ _ _ q => gt_int q
theorem Sw : OpR X (compareOp .GtE) (rI0 fun i j => .bl (decide (j ≤ i))) := W4 fun _ _ _ _ _ _ _ q => ge_int q
theorem Mh : OpR X (compareOp .Is) (fun x y H Q => y = .non ∧ Q (.bl (decide (x = .non))) H) := by
 intro pins s σ H x y v u Q I rx ry h
 obtain ⟨rfl, q⟩ := h
 cases ry
 refine is_none_gen (At I q ?_)
 cases x <;> first
  | (cases rx; rfl)
  | (obtain ⟨t, rfl⟩ := rx; rfl)
theorem Vg (b : Expr) {op : CmpOp} (h : op ≠ .In := by decide) (h2 : op ≠ .NotIn := by decide) : behindInMarks op b = false := by
 have e1 : (op == CmpOp.In) = false := by cases op <;> first | rfl | exact absurd rfl h
 have e2 : (op == CmpOp.NotIn) = false := by cases op <;> first | rfl | exact absurd rfl h2
 cases b <;> simp [behindInMarks, e1, e2]
theorem S9 {op : CmpOp} {r : R2} (ho : OpR X (compareOp op) r) (ha : PE X a ta) (hb : PE X b tb) (hm : behindInMarks op b = false) : PE X (.Compare a [op] [b] pos) (tOp r ta tb) := by
 intro pins s σ H Q I h
 exact wpAny_Compare1 (Yg ha hb I h fun v u s2 x y H2 I2 rx ry q => ho pins s2 σ H2 x y v u Q I2 rx ry q) hm
noncomputable def G1 (t : TE) : TT := fun σ H Q => t σ H fun x H' => ∃ k, x = .bl k ∧ Q k H'
theorem Wp {op : CmpOp} {r : R2} (ho : OpR X (compareOp op) r) (ha : PE X a ta) (hb : PE X b tb) (hm : behindInMarks op b = false) : PT X (.Compare a [op] [b] pos) (G1 (tOp r ta tb)) := by
 intro pins s σ H Q I h
 refine wpAny_isTrue_Compare1 (thn (ha pins s σ H _ I h) fun v s1 ⟨x, H1, I1, r1, q1⟩ => thn (hb pins s1 σ H1 _ I1 q1) fun u s2 ⟨y, H2, I2, r2, q2⟩ =>
  thn (ho pins s2 σ H2 x y v u _ I2 r1 r2 q2) fun c s3 ⟨z, H3, I3, r3, k, e, q3⟩ => ?_) hm
 subst e
 cases r3
 exact wpAny_truthy_bool ⟨H3, I3, q3⟩
theorem Nl : (sizeLine : Nat) < 2 ^ 63 := by rw [sizeLine_eq]; decide
theorem vals1 {x : V} {us : List Value} (r : Al [x] us) : ∃ u, us = [u] ∧ RelV x u := by
 cases r with
 | cons r1 r2 => cases r2; exact ⟨_, rfl, r1⟩
theorem vals2 {x y : V} {us : List Value} (r : Al [x, y] us) : ∃ u w', us = [u, w'] ∧ RelV x u ∧ RelV y w' := by
 cases r with
 | cons r1 r2 =>
  cases r2 with
  | cons r3 r4 => cases r4; exact ⟨_, _, rfl, r1, r3⟩
theorem HK : Bl X (.builtin "abs") (fun xs H Q => ∃ i, xs = [.int i] ∧ Q (.int (if i < 0 then -i else i)) H) := by
 intro pins s σ H xs us Q I r h
 obtain ⟨i, rfl, q⟩ := h
 obtain ⟨u, rfl, t, rfl⟩ := vals1 r
 exact call_abs_int fun u tk => ⟨.int (if i < 0 then -i else i), H, I.tok _, ⟨_, rfl⟩, q⟩
theorem LW (hc : X.calm = true) : Bl X (.builtin "max") (fun xs H Q => ∃ i j, xs = [.int i, .int j] ∧ Q (.int (if j > i then j else i)) H) := by
 intro pins s σ H xs us Q I r h
 obtain ⟨i, j, rfl, q⟩ := h
 obtain ⟨u, w', rfl, ⟨t, rfl⟩, ⟨t', rfl⟩⟩ := vals2 r
 refine max_two_ints (I.ok.hd hc) fun h' tk k => ⟨_, H, I.kept k, ?_, q⟩
 by_cases hj : j > i
 ·rw [if_pos hj, if_pos hj]; exact ⟨_, rfl⟩
 ·rw [if_neg hj, if_neg hj]; exact ⟨_, rfl⟩
theorem Ox (hc : X.calm = true) : Bl X (.builtin "min") (fun xs H Q => ∃ i j, xs = [.int i, .int j] ∧ Q (.int (if j < i then j else i)) H) := by
 intro pins s σ H xs us Q I r h
 obtain ⟨i, j, rfl, q⟩ := h
 obtain ⟨u, w', rfl, ⟨t, rfl⟩, ⟨t', rfl⟩⟩ := vals2 r
 refine min_two_ints (I.ok.hd hc) fun h' tk k => ⟨_, H, I.kept k, ?_, q⟩
 by_cases hj : j < i
 ·rw [if_pos hj, if_pos hj]; exact ⟨_, rfl⟩
 ·rw [if_neg hj, if_neg hj]; exact ⟨_, rfl⟩
theorem Tp : Bl X (.type "int") (fun xs H Q => (∃ i, xs = [.int i] ∧ Q (.int i) H) ∨ ∃ k, xs = [.bl k] ∧ Q (.int (if k then 1 else 0)) H) := by
 intro pins s σ H xs us Q I r h
 rcases h with ⟨i, rfl, q⟩ | ⟨k, rfl, q⟩
 ·obtain ⟨u, rfl, t, rfl⟩ := vals1 r
  exact call_int_int ⟨.int i, H, I, ⟨_, rfl⟩, q⟩
 ·obtain ⟨u, rfl, r1⟩ := vals1 r
  cases r1
  exact call_int_bool ⟨.int (if k then 1 else 0), H, I.tok _, ⟨_, rfl⟩, q⟩
end
structure SR (h : Heap) (x dx C : Addr) (mA : Str → Option Value) : Prop where
 obj : h.get? x = some (W.instObj C dx)
 ns : h.Ns1 dx mA
 ne : dx ≠ x
theorem Tg {h : Heap} {dx : Addr} {mA : Str → Option Value} (n : h.Ns1 dx mA) : ∃ od, h.get? dx = some od ∧ ∀ name, W.lookIn name od = some (mA name) := by
 obtain ⟨o, es, ep, ho, hd, hk, _, hm⟩ := n
 refine ⟨o, ho, fun name => ?_⟩
 have e := hm name
 unfold nsFind findBy at e
 rw [← Array.find?_toList] at e
 unfold W.lookIn
 rw [hd]
 dsimp only
 split
 ·rename_i y q
  rw [q] at e
  exact congrArg some e
 ·rename_i q
  rw [q] at e
  have a : es.toList.any (·.refKey) = false := by
   rw [List.any_eq_false]
   intro y hy
   obtain ⟨z, t, hkey⟩ := hk y (Array.mem_toList_iff.mp hy)
   simp [DictEntry.refKey, hkey]
  have a' : ¬ es.toList.any (·.refKey) = true := by rw [a]; exact zS
  rw [if_neg a']
  exact congrArg some e
theorem SR.look {h : Heap} {x dx C : Addr} {mA : Str → Option Value} (I : SR h x dx C mA) : ∃ od, W.InstAt h x (W.instObj C dx) C (some od) ∧ ∀ name, W.lookIn name od = some (mA name) :=
 let ⟨od, ho, hl⟩ := Tg I.ns
 ⟨od, ⟨I.obj, rfl, rfl, ho⟩, hl⟩
section
variable {prog : Program} {w : World} {A : Around} {E : Value → Shared → Prop} {s : Shared} {K : W.Frag} {x dx C f : Addr} {mA : Str → Option Value} {name : Str} {v : Value}
theorem W5 {expr : Bool} {Q : Value → Shared → Prop} (X : K.In s.heap) (I : SR s.heap x dx C mA) (hg : W.plainGet K C name = true) (hh : W.hasDictIn K C = true)
  (ha : W.findIn K (.ref C) name = some none) (hv : mA name = some v) (hv' : W.handedIn v = true) (h : Q v { s with toks := s.toks + 1 }) :
  wpAny (model prog w) A (getAttr (.ref x) name expr) Q E s := by
 obtain ⟨od, J, hl⟩ := I.look
 exact W.get_value X J (W.plainGet_of hg).1 (W.findObj_own hh ha rfl (by rw [hl, hv])) hv' h
theorem V5 {pl : Sem Bool} {Q : Value × List Value → Shared → Prop} (X : K.In s.heap) (I : SR s.heap x dx C mA) (hg : W.plainGet K C name = true)
  (hf : W.findIn K (.ref C) name = some (some (.ref f))) (ht : W.isFn K (.ref f) = true) (hv : mA name = none) (h : Q (.ref f, [.ref x]) s) :
  wpAny (model prog w) A (getMethod (.ref x) name pl) Q E s := by
 obtain ⟨od, J, hl⟩ := I.look
 exact W.method_fn X J (W.plainGet_of hg).1 (W.plainGet_of hg).2 hf (beq_iff_eq.mp ht) (by show (W.lookIn name od).map (·.isSome) = some false; rw [hl, hv]; rfl) h
theorem W0 {ns : List Str} {Q : Unit → Shared → Prop} (X : K.In s.heap) (I : SR s.heap x dx C mA)
  (hs : W.findIn K (.ref C) "__setattr__" = some (some (.builtin "object.__setattr__"))) (hp : W.plainOver K C = true) (ht : W.takerIn K C name = some none) (hh : W.hasDictIn K C = true)
  (hw : PySem.Within mA ns) (hsz : ns.length ≤ sizeLine)
  (h : ∀ h', SR h' x dx C (fun y => if y = name then some v else mA y) → Heap.SameBut dx s.heap h' → Q () { s with heap := h', toks := s.toks + 2 }) :
  wpAny (model prog w) A (setAttr (.ref x) name v) Q E s := by
 obtain ⟨od, J, hl⟩ := I.look
 refine W.set_plain X J hs (W.osa_open (s := { s with toks := s.toks + 1 }) (r := none) X J hp ht fun b => ?_)
 obtain ⟨cd, hc, hd'⟩ := W.any_some hh
 have hx : s.heap.get? x = some ⟨.ref C, some dx, .plain, #[]⟩ := I.obj
 refine wpAny_bind (wpAny_pure (wpAny_bind (wpAny_bind (wpAny_loadPart hx (wpAny_bind (W.Looks.here (s := { s with toks := s.toks + 1 }) (W.looks_clsIn X hc) ?_))))))
 rw [hd']
 refine wpAny_pure (a := some dx) (wpAny_bind (wpAny_pure (wpAny_bind ?_)))
 refine wpAny_nsSet1 (s := { s with toks := s.toks + 1 }) I.ns fun h' hn2 hs2 => ?_
 obtain ⟨oD, esD, epD, hoD, hdD, hcD⟩ := hn2.count (PySem.Within.cons name v hw)
 refine wpAny_bind (wpAny_lookBehind hoD (by rw [hdD]; exact pastItsLine_dict (zT hcD (by rw [zE]; lia))) ?_)
 exact wpAny_pure (h _ ⟨(hs2.2 _ (Ne.symm I.ne)).trans I.obj, hn2, I.ne⟩ hs2)
theorem V3 {R : Result → Shared → Prop} {vs : List Value} {kw : List (Str × Value)} (X : K.In s.heap) (hm : W.makesIn K C = true)
  (hi : W.findIn K (.ref C) "__init__" = some (some (.ref f))) (hf : W.typeIn K (.ref f) = some (.type "function"))
  (h : codeAny (model prog w) (A.under (.builtin "type.__call__" ⟨.ref C :: vs, kw⟩)) (.call (.ref f) ⟨.ref (s.heap.objs.size + 1) :: vs, kw⟩) (W.InitBack (s.heap.objs.size + 1) R)
   { s with heap := (s.heap.push W.emptyDict).push (W.instObj C s.heap.objs.size) }) :
  codeAny (model prog w) A (.call (.ref C) ⟨vs, kw⟩) R s := by
 obtain ⟨hh, g, d, t, os⟩ := s
 exact W.make_core (W.makes_of X hm) (W.looks_findIn X hi) (fun self => W.bind_fn X self hf) (.inl rfl) h
end
noncomputable def IN (f : Str) (v : V) : List (Str × V) → List (Str × V)
 | [] => [(f, v)]
 | (g, x) :: r => if g = f then (g, v) :: r else (g, x) :: IN f v r
theorem Ly (f g : Str) (v : V) : ∀ fs : List (Str × V), (IN f v fs).lookup g = if g = f then some v else fs.lookup g
 | [] => by
  show List.lookup g [(f, v)] = _
  by_cases h : g = f
  ·have hb : (g == f) = true := beq_iff_eq.mpr h
   simp only [List.lookup, hb, if_pos h]
  ·have hb : (g == f) = false := beq_eq_false_iff_ne.mpr h
   simp only [List.lookup, hb, if_neg h]
 | (k, x) :: r => by
  have ih := Ly f g v r
  rw [show IN f v ((k, x) :: r) = (if k = f then (k, v) :: r else (k, x) :: IN f v r) from rfl]
  by_cases hk : k = f
  ·rw [if_pos hk]
   by_cases h : g = k
   ·have hb : (g == k) = true := beq_iff_eq.mpr h
    simp only [List.lookup, hb, if_pos (h.trans hk)]
   ·have hb : (g == k) = false := beq_eq_false_iff_ne.mpr h
    simp only [List.lookup, hb, if_neg (fun e : g = f => h (e.trans hk.symm))]
  ·rw [if_neg hk]
   by_cases h : g = k
   ·have hb : (g == k) = true := beq_iff_eq.mpr h
    simp only [List.lookup, hb, if_neg (fun e : g = f => hk (h.symm.trans e))]
   ·have hb : (g == k) = false := beq_eq_false_iff_ne.mpr h
    simp only [List.lookup, hb]
    exact ih
theorem Lg (f : Str) (v : V) : ∀ fs : List (Str × V), f ∈ (IN f v fs).map (·.1) ∧ ∀ g, g ∈ fs.map (·.1) → g ∈ (IN f v fs).map (·.1)
 | [] => ⟨by simp [IN], fun g h => by simp at h⟩
 | (k, x) :: r => by
  obtain ⟨i1, i2⟩ := Lg f v r
  rw [show IN f v ((k, x) :: r) = (if k = f then (k, v) :: r else (k, x) :: IN f v r) from rfl]
  by_cases hk : k = f
  ·rw [if_pos hk]
   subst hk
   exact ⟨by simp, fun g h => by simpa using h⟩
  ·rw [if_neg hk]
   refine ⟨?_, fun g h => ?_⟩
   ·rw [zZ]
    exact zD _ i1
   ·rw [zZ] at h ⊢
    rcases zL.mp h with e | e
    ·exact zL.mpr (.inl e)
    ·exact zD _ (i2 g e)
theorem MD (f : Str) (v : V) : ∀ fs : List (Str × V), (IN f v fs).length ≤ fs.length + 1
 | [] => by simp [IN]
 | (k, x) :: r => by
  have ih := MD f v r
  rw [show IN f v ((k, x) :: r) = (if k = f then (k, v) :: r else (k, x) :: IN f v r) from rfl]
  by_cases hk : k = f
  ·rw [if_pos hk, zE, zE]; lia
  ·rw [if_neg hk, zE, zE]; lia
theorem F2.some_of {v : V} {o : Option Value} (r : F2 (some v) o) : ∃ u, o = some u ∧ RelV v u := by
 cases o with
 | none => exact (show False from r).elim
 | some u => exact ⟨u, rfl, r⟩
theorem F2.none_of {o : Option Value} (r : F2 none o) : o = none := by
 cases o with
 | none => rfl
 | some u => exact (show False from r).elim
theorem Tk {v : V} {u : Value} (r : RelV v u) : W.handedIn u = true := by
 cases v with
 | non => cases (show u = Value.none from r); rfl
 | bl b => cases (show u = Value.bool b from r); rfl
 | int i => obtain ⟨t, e⟩ := (show ∃ t, u = Value.int i t from r); cases e; rfl
 | str x => obtain ⟨t, e⟩ := (show ∃ t, u = Value.str x t from r); cases e; rfl
 | byt b => obtain ⟨t, e⟩ := (show ∃ t, u = Value.bytes b t from r); cases e; rfl
 | flt b => obtain ⟨t, e⟩ := (show ∃ t, u = Value.float b t from r); cases e; rfl
 | ref a => cases (show u = Value.ref a from r); rfl
 | ty n => cases (show u = Value.type n from r); rfl
section
variable {P : Program} {w : World} {H H' : Hp} {h h' : Heap} {a C dx : Addr} {fs fs' : List (Str × V)}
theorem Kl (hok : HOk P w H h) (e : H a = some (.ins C dx fs)) : ∃ mA, SR h a dx C mA ∧ (∀ f, F2 (fs.lookup f) (mA f)) ∧ PySem.Within mA (fs.map (·.1)) ∧ fs.length ≤ 1000 ∧ H dx = some (.own a) := by
 obtain ⟨d, z, ne, ob, mA, n, r, q⟩ := (show A3 P w H h a (.ins C dx fs) from hok a _ e)
 exact ⟨mA, ⟨ob, n, ne⟩, r, q, z, d⟩
end
structure Cls (K : W.Frag) (C : Addr) : Prop where
 pg : W.plainGet K C Str.empty = true
 hd : W.hasDictIn K C = true
 po : W.plainOver K C = true
 sa : W.findIn K (.ref C) "__setattr__" = some (some (.builtin "object.__setattr__"))
theorem Cls.get {K : W.Frag} {C : Addr} (c : Cls K C) (f : Str) : W.plainGet K C f = true := c.pg
noncomputable def Hc (K : W.Frag) (C : Addr) (f : Str) : Prop := W.findIn K (.ref C) f = some none
theorem Hc.taker {K : W.Frag} {C : Addr} {f : Str} (n : Hc K C f) : W.takerIn K C f = some none := by
 unfold W.takerIn
 rw [show W.findIn K (.ref C) f = some none from n]
 rfl
structure Rz (K : W.Frag) (C : Addr) (m : Str) (f : Addr) : Prop where
 at_ : W.findIn K (.ref C) m = some (some (.ref f))
 fn : W.isFn K (.ref f) = true
 kp : W.keepIn K (.ref f) = true
section
variable {X : Cx} {pins : List (Addr × Obj)} {σ : St} {H : Hp} {s : Shared} {a C dx : Addr} {fs : List (Str × V)} {f : Str} {v : V} {A : Around} {E : Value → Shared → Prop}
theorem SE {b : Bool} {Q : Value → Shared → Prop} (I : Inv X pins σ H s) (e : H a = some (.ins C dx fs)) (c : Cls X.K C) (n : Hc X.K C f) (l : fs.lookup f = some v)
  (h : ∀ u s', Inv X pins σ H s' → RelV v u → Q u s') : wpAny (model X.prog X.w) A (getAttr (.ref a) f b) Q E s := by
 obtain ⟨mA, O, r, _, _, _⟩ := Kl I.hok e
 obtain ⟨u, hu, ru⟩ := F2.some_of (v := v) (o := mA f) (by rw [← l]; exact r f)
 exact W5 I.kIn O (c.get f) c.hd n hu (Tk ru) (h u _ (I.tok _) ru)
theorem Ft {m : Str} {g : Addr} {pl : Sem Bool} {Q : Value × List Value → Shared → Prop} (I : Inv X pins σ H s) (e : H a = some (.ins C dx fs)) (c : Cls X.K C) (k : Rz X.K C m g) (l : fs.lookup m = none)
  (h : Q (.ref g, [.ref a]) s) : wpAny (model X.prog X.w) A (getMethod (.ref a) m pl) Q E s := by
 obtain ⟨mA, O, r, _, _, _⟩ := Kl I.hok e
 have hn : mA m = none := F2.none_of (by rw [← l]; exact r m)
 exact V5 I.kIn O (c.get m) k.at_ k.fn hn h
theorem SG {y : V} {u : Value} {Q : Unit → Shared → Prop} (I : Inv X pins σ H s) (e : H a = some (.ins C dx fs)) (c : Cls X.K C) (n : Hc X.K C f) (hl : fs.length < 1000) (ry : RelV y u)
  (h : ∀ s', Inv X pins σ (upd H a (.ins C dx (IN f y fs))) s' → Q () s') : wpAny (model X.prog X.w) A (setAttr (.ref a) f u) Q E s := by
 obtain ⟨mA, O, r, wi, _, ho⟩ := Kl I.hok e
 have hz : (fs.map (·.1)).length ≤ sizeLine := by rw [z5, sizeLine_eq]; lia
 refine W0 I.kIn O c.sa c.po n.taker c.hd wi hz fun h' O' sb => h _ ?_
 have hd : ∃ o, h'.get? dx = some o := let ⟨o, _, _, e', _⟩ := O'.ns; ⟨o, e'⟩
 refine I.write (x := a) (e := dx) (by rw [e]; exact True.intro) (.inr ho) (fun b q hb z => (sb.2 b hb).trans z) hd ?_
 refine ⟨by rw [AL O.ne]; exact ho, ?_, O.ne, O'.obj, _, O'.ns, fun g => ?_, fun g hg => ?_⟩
 ·have := MD f y fs; lia
 ·show F2 ((IN f y fs).lookup g) (if g = f then some u else mA g)
  rw [Ly]
  by_cases q : g = f
  ·rw [if_pos q, if_pos q]; exact ry
  ·rw [if_neg q, if_neg q]; exact r g
 ·by_cases q : g = f
  ·rw [q]; exact (Lg f y fs).1
  ·refine (Lg f y fs).2 g (wi g fun z => hg ?_)
   show (if g = f then some u else mA g) = none
   rw [if_neg q]; exact z
theorem Inv.made (I : Inv X pins σ H s) : Inv X pins σ (upd (upd H s.heap.objs.size (.own (s.heap.objs.size + 1))) (s.heap.objs.size + 1) (.ins C s.heap.objs.size []))
  { s with heap := (s.heap.push W.emptyDict).push (W.instObj C s.heap.objs.size) } := by
 have e1 : (s.heap.push W.emptyDict).get? s.heap.objs.size = some W.emptyDict := zY s.heap rfl
 have e2 : ((s.heap.push W.emptyDict).push (W.instObj C s.heap.objs.size)).get? (s.heap.objs.size + 1) = some (W.instObj C s.heap.objs.size) := by
  have := zY (s.heap.push W.emptyDict) (o := W.instObj C s.heap.objs.size) rfl
  rwa [Heap.size_push] at this
 have e3 : (s.heap.push W.emptyDict).Ns s.heap.objs.size (fun _ => none) := ⟨W.emptyDict, #[], _, e1, rfl, (fun e he => absurd he (by simp)), fun _ => rfl⟩
 have I1 := I.laid (a := s.heap.objs.size) (o := .own (s.heap.objs.size + 1)) (h' := s.heap.push W.emptyDict) (t' := s.toks) (fun b u q => zB _ q) (zG _) ⟨_, e1⟩
 refine I1.laid (a := s.heap.objs.size + 1) (o := .ins C s.heap.objs.size []) (t' := s.toks) (fun b u q => zB _ q) (Nat.le_of_eq (Heap.size_push _ _)) ?_
 have ne : s.heap.objs.size ≠ s.heap.objs.size + 1 := zX (Nat.lt_succ_self _)
 refine ⟨by rw [AL ne, AN], zi _, ne, e2, fun _ => none, (Heap.Ns1.of_empty e3).at fun o q => zB _ q, fun _ => True.intro, fun y hy => absurd rfl hy⟩
theorem WA {prog : Program} {w : World} {env : Env} {e : Expr} {f : Str} {pos : Pos} {s : Shared} {Q : Value → Shared → Prop} (hb : attributeBase e f env (eval e env) = eval e env)
  (h : wpAny (model prog w) A (eval e env) (fun o s₁ => wpAny (model prog w) A (getAttr o f true) Q E s₁) E s) : wpAny (model prog w) A (eval (.Attribute e f pos) env) Q E s :=
 Attribute_any_ h (by rw [arm_eval_Attribute, hb])
end
noncomputable def N8 (K : W.Frag) (ta : TE) (f : Str) : TE := fun σ H Q => ta σ H fun x H1 => ∃ a C dx fs v, x = .ref a ∧ H1 a = some (.ins C dx fs) ∧ Cls K C ∧ Hc K C f ∧ fs.lookup f = some v ∧ Q v H1
noncomputable def OG (K : W.Frag) (ta tv : TE) (f : Str) : TS := fun D σ H => tv σ H fun y H1 => ta σ H1 fun x H2 => ∃ a C dx fs, x = .ref a ∧ H2 a = some (.ins C dx fs) ∧ Cls K C ∧ Hc K C f ∧ fs.length < 1000 ∧
 D.nx σ (upd H2 a (.ins C dx (IN f y fs)))
section
variable {X : Cx} {o e value : Expr} {f : Str} {pos pos' tpos : Pos} {ta tv : TE}
theorem Br (he : PE X e ta) (hb : attributeBase e f X.env (eval e X.env) = eval e X.env) : PE X (.Attribute e f pos) (N8 X.K ta f) := by
 intro pins s σ H Q I h
 refine WA hb (thn (he pins s σ H _ I h) fun u s1 zq => ?_)
 obtain ⟨x, H1, I1, rx, a, C, dx, fs, v, ex, ea, c, n, l, q⟩ := zq
 subst ex
 obtain rfl : u = Value.ref a := rx
 exact SE I1 ea c n l fun u' s2 I2 ru => ⟨v, H1, I2, ru, q⟩
theorem N1 (ha : PE X o ta) (hv : PE X value tv) (hs : swapsWith value (some (.Attribute o f pos')) pos.line X.env = pure false) : PS X (.Assign [.Attribute o f pos'] value pos) (OG X.K ta tv f) := by
 intro pins s σ H D I h
 refine plainObj_wpAny_Assign_Attribute (thn (hv pins s σ H _ I h) fun u s1 ⟨y, H1, I1, ry, q⟩ => thn (ha pins s1 σ H1 _ I1 q) fun ov s2 zq => ?_) hs
 obtain ⟨x, H2, I2, rx, a, C, dx, fs, ex, ea, c, n, l, q2⟩ := zq
 subst ex
 obtain rfl : ov = Value.ref a := rx
 exact SG I2 ea c n l ry fun s3 I3 => ⟨σ, _, I3, q2⟩
end
section
variable {X : Cx} {pins : List (Addr × Obj)} {σ : St} {H : Hp} {s : Shared} {A : Around} {E : Value → Shared → Prop} {Q : Value → Shared → Prop} {c : Value} {b : Bool}
inductive E1 (K : W.Frag) (H : Hp) : V → Value → Prop where
 | non : E1 K H .non (.type "NoneType")
 | bl (x : Bool) : E1 K H (.bl x) (.type "bool")
 | int (i : Int) : E1 K H (.int i) (.type "int")
 | str (x : Str) : E1 K H (.str x) (.type "str")
 | flt (x : UInt64) : E1 K H (.flt x) (.type "float")
 | lst {a : Addr} {xs : List V} (e : H a = some (.lst xs)) : E1 K H (.ref a) (.type "list")
 | frz {a : Addr} {o : Obj} {xs : List V} (e : H a = some (.frz o (.lst xs))) : E1 K H (.ref a) (.type "list")
 | tup {a : Addr} {xs : List V} (e : H a = some (.tup xs)) : E1 K H (.ref a) (.type "tuple")
 | dK {a : Addr} {kvs : List (Key × V)} (e : H a = some (.dK kvs)) : E1 K H (.ref a) (.type "dict")
 | dT {a : Addr} {kvs : List (List Key × V)} (e : H a = some (.dT kvs)) : E1 K H (.ref a) (.type "dict")
 | ins {a C dx : Addr} {fs : List (Str × V)} (e : H a = some (.ins C dx fs)) (cl : Cls K C) (ha : W.findIn K (.ref C) "__class__" = some (some (.builtin "object.__class__")))
   (hn : W.specialIn K (.builtin "object.__class__") "__get__" = some (some (.builtin "getset_descriptor.__get__"))) (htk : W.takesIn K (.builtin "object.__class__") = some true)
   (hm : W.mroIn K C (.type "object") = some true) : E1 K H (.ref a) (.ref C)
theorem Tb {x : V} {u t : Value} (I : Inv X pins σ H s) (rx : RelV x u) (ty : E1 X.K H x t) (e : W.kitOne X.K t c = some b) (h : ∀ tk, Q (.bool b) { s with toks := tk }) :
  wpAny (model X.prog X.w) A (call (.builtin "isinstance") [u, c]) Q E s := by
 cases ty with
 | non => cases (show u = Value.none from rx); exact W.kia_one W.kitx_none I.kIn True.intro e (fun z => nomatch z) h
 | bl y => cases (show u = Value.bool y from rx); exact W.kia_one W.kitx_bool I.kIn True.intro e (fun z => nomatch z) h
 | int i => obtain ⟨t, q⟩ := (show ∃ t, u = Value.int i t from rx); cases q; exact W.kia_one W.kitx_int I.kIn True.intro e (fun z => nomatch z) h
 | str y => obtain ⟨t, q⟩ := (show ∃ t, u = Value.str y t from rx); cases q; exact W.kia_one W.kitx_str I.kIn True.intro e (fun z => nomatch z) h
 | flt y => obtain ⟨t, q⟩ := (show ∃ t, u = Value.float y t from rx); cases q; exact W.kia_one W.kitx_float I.kIn True.intro e (fun z => nomatch z) h
 | @lst a xs ea =>
  cases (show u = Value.ref a from rx)
  obtain ⟨_, _, n, _, h1⟩ := (show A3 X.prog X.w H s.heap a (.lst xs) from I.hok a _ ea)
  exact W.kia_one W.kitx_list I.kIn ⟨_, h1, rfl⟩ e (fun z => nomatch z) h
 | @frz a ob xs ea =>
  cases (show u = Value.ref a from rx)
  obtain ⟨_, _, _, n, _, h1⟩ := (show A3 X.prog X.w H s.heap a (.frz ob (.lst xs)) from I.hok a _ ea)
  exact W.kia_one W.kitx_list I.kIn ⟨_, h1, rfl⟩ e (fun z => nomatch z) h
 | @tup a xs ea =>
  cases (show u = Value.ref a from rx)
  obtain ⟨_, _, _, p⟩ := (show A3 X.prog X.w H s.heap a (.tup xs) from I.hok a _ ea)
  obtain ⟨o, h1, h2, _⟩ := p
  exact W.kia_one W.kitx_tuple I.kIn ⟨o, h1, h2⟩ e (fun z => nomatch z) h
 | @dK a kvs ea =>
  cases (show u = Value.ref a from rx)
  obtain ⟨_, _, vs, _, p⟩ := (show A3 X.prog X.w H s.heap a (.dK kvs) from I.hok a _ ea)
  obtain ⟨o, es, ep, h1, h2, _⟩ := p
  exact W.kia_one W.kitx_dict I.kIn ⟨o, h1, h2.1⟩ e (fun z => nomatch z) h
 | @dT a kvs ea =>
  cases (show u = Value.ref a from rx)
  obtain ⟨_, _, xs, _, o, es, ep, h1, h2, _⟩ := (show A3 X.prog X.w H s.heap a (.dT kvs) from I.hok a _ ea)
  exact W.kia_one W.kitx_dict I.kIn ⟨o, h1, h2.1⟩ e (fun z => nomatch z) h
 | @ins a C dx fs ea cl ha hn htk hm =>
  cases (show u = Value.ref a from rx)
  obtain ⟨mA, O, _⟩ := Kl I.hok ea
  obtain ⟨od, J, _⟩ := O.look
  exact W.kia_one (W.kitx_own (cl.get _) cl.hd ha hn htk hm) I.kIn J e (fun z => nomatch z) h
end
structure CF (k : Nat) (A : Around) : Prop where
 hd : A.handled = none
 dp : A.depth + 3 * k + 5 < recursionLimit
 un : A.units + 16 * k + 200 < cLine
theorem CF.mono {j k : Nat} {A : Around} (r : CF k A) (h : j ≤ k) : CF j A := ⟨r.hd, by have := r.dp; lia, by have := r.un; lia⟩
theorem CF.deeper {k : Nat} {A : Around} (r : CF (k + 1) A) (env : Env) : CF k (A.deeper env) :=
 ⟨r.hd, by have := r.dp; show A.depth + 1 + 3 * k + 5 < _; lia, by have := r.un; show A.units + 3 + 16 * k + 200 < _; lia⟩
theorem SU {A : Around} {C : Addr} {us : List Value} {kw : List (Str × Value)} : (A.under (.builtin "type.__call__" ⟨.ref C :: us, kw⟩)).depth = A.depth + 1 := by
 first | rfl | simp [Around.under, Code.weight, Code.isCreation, Code.isGuard, Code.isCaller, Code.frames, Code.isFrame, guardIds]
theorem SW {A : Around} {C : Addr} {us : List Value} {kw : List (Str × Value)} : (A.under (.builtin "type.__call__" ⟨.ref C :: us, kw⟩)).units = A.units + 1 := by
 first | rfl | simp [Around.under, Code.cUnits, Code.frames, Code.isFrame]
theorem CF.make {k : Nat} {A : Around} (r : CF (k + 1) A) (C : Addr) (us : List Value) (kw : List (Str × Value)) : CF k (A.under (.builtin "type.__call__" ⟨.ref C :: us, kw⟩)) :=
 ⟨r.hd, by have := r.dp; rw [SU]; lia, by have := r.un; rw [SW]; lia⟩
theorem CF.depth {k : Nat} {A : Around} (r : CF k A) : A.depth < recursionLimit := by have := r.dp; lia
theorem CF.units {k : Nat} {A : Around} (r : CF k A) : A.units + 64 < cLine := by have := r.un; lia
noncomputable def K9 : TA := fun _ H Q => Q [] H
noncomputable def JM (ta : TE) (tr : TA) : TA := fun σ H Q => ta σ H fun x H1 => tr σ H1 fun xs H2 => Q (x :: xs) H2
section
variable {X : Cx} {e : Expr} {es : List Expr} {te : TE} {t : TA} {pos : Pos}
theorem AC : PA X [] K9 := fun _ _ _ _ H Q I h => Calls.spliced_nil ⟨[], H, I, .nil, h⟩
theorem AA (ha : PE X e te) (hr : PA X es t) (hs : starEach (e :: es) X.env = (false, eval e X.env) :: starEach es X.env := by rfl) : PA X (e :: es) (JM te t) := by
 intro pos pins s σ H Q I h
 rw [hs]
 show wpAny _ _ (spliced ((false, eval e X.env) :: backTo pos (starEach es X.env))) _ _ s
 refine Calls.spliced_cons (thn (ha pins s σ H _ I h) fun u s1 zq => ?_)
 obtain ⟨x, H1, I1, r1, q1⟩ := zq
 exact thn (hr pos pins s1 σ H1 _ I1 q1) fun us s2 ⟨xs, H2, I2, r2, q2⟩ => ⟨x :: xs, H2, I2, .cons r1 r2, q2⟩
end
noncomputable abbrev Sp := List V → Hp → VK → XK → Prop
noncomputable abbrev CXT := List Env → Hp → Shared → XK → Value → Shared → Prop
structure SJ (P : Program) (w : World) (K : W.Frag) (mg : Str → Option Value) (base : Heap) (A : Around) (outer : List Env) (s : Shared) (H : Hp) : Prop where
 frames : A.frames = some outer
 mod : Mod K mg base
 bs : ∀ b o, base.get? b = some o → s.heap.get? b = some o ∧ H b = none
 bsz : base.objs.size ≤ s.heap.objs.size
 funs : s.heap.FunFrames base outer
 frf : ∀ b ∈ frs outer, H b = none
 hok : HOk P w H s.heap
 bare : AllBare s.gens
noncomputable def CE (outer : List Env) (P : Program) (w : World) (H : Hp) (s : Shared) (Q : VK) (u : Value) (s' : Shared) : Prop :=
 ∃ v H', s'.os = s.os ∧ AllBare s'.gens ∧ Un (frs outer) [] H H' s.heap s'.heap ∧ HOk P w H' s'.heap ∧ RelV v u ∧ Q v H'
noncomputable def CR (CX : CXT) (outer : List Env) (P : Program) (w : World) (H : Hp) (s : Shared) (Q : VK) (E : XK) (r : Result) (s' : Shared) : Prop :=
 match r with
 | .ok (.ret u) => CE outer P w H s Q u s'
 | .ok _ => False
 | .error e => CX outer H s E e s'
structure Af (P : Program) (w : World) (K : W.Frag) (mg : Str → Option Value) (base : Heap) (CX : CXT) (k : Nat) (f : Addr) (fd : FuncData) (ps : List Str) (sp : Sp) : Prop where
 len : ∀ vs H Q E, sp vs H Q E → vs.length = ps.length
 run : ∀ (A : Around) (outer : List Env) (s : Shared) (H : Hp) (args : Args) (us : List Value) (vs : List V) (Q : VK) (E : XK), CF k A → SJ P w K mg base A outer s H → BindsTo s fd args (ps.zip us) → Al vs us → sp vs H Q E →
  codeAny (model P w) A (.call (.ref f) args) (CR CX outer P w H s Q E) s
theorem Af.mono {P : Program} {w : World} {K : W.Frag} {mg : Str → Option Value} {base : Heap} {CX : CXT} {j k : Nat} {f : Addr} {fd : FuncData} {ps : List Str} {sp : Sp} (F : Af P w K mg base CX j f fd ps sp) (h : j ≤ k) :
  Af P w K mg base CX k f fd ps sp := ⟨F.len, fun A outer s H args us vs Q E hr => F.run A outer s H args us vs Q E (hr.mono h)⟩
theorem SJ.make {P : Program} {w : World} {K : W.Frag} {mg : Str → Option Value} {base : Heap} {A : Around} {outer : List Env} {s : Shared} {H : Hp} (e : SJ P w K mg base A outer s H) (C : Addr) (us : List Value) (kw : List (Str × Value)) :
  SJ P w K mg base (A.under (.builtin "type.__call__" ⟨.ref C :: us, kw⟩)) outer s H := ⟨by first | exact e.frames | (simpa [Around.under, Code.envs, Code.isFrame, pushEnvs] using e.frames), e.mod, e.bs, e.bsz, e.funs, e.frf, e.hok, e.bare⟩
section
variable {X : Cx} {pins : List (Addr × Obj)} {σ : St} {H : Hp} {s s' : Shared}
theorem Inv.env0 (I : Inv X pins σ H s) : SJ X.prog X.w X.K X.mg X.base X.A X.stack s H :=
 ⟨I.ok.frames, I.ok.mod, I.bs, zT I.ok.bsz I.sz, I.stack, I.stkFree, I.hok, I.bare⟩
theorem Inv.after {Q : VK} {u : Value} (I : Inv X pins σ H s) (h : CE X.stack X.prog X.w H s Q u s') : EP X pins σ Q u s' := by
 obtain ⟨v, H', os, bare, un, hok, r, q⟩ := h
 obtain ⟨hh, g, d, t, os'⟩ := s'
 obtain rfl : os' = s.os := os
 exact ⟨v, H', I.call (h' := hh) (g' := g) (d' := d) (t' := t) (ch := []) un hok bare (fun b z => absurd z (by simp)), r, q⟩
end
noncomputable def HX (sp : Sp) (dvs : List V) (E : XK) (t : TA) : TE := fun σ H Q => t σ H fun vs H1 => sp (vs ++ dvs) H1 Q E
noncomputable def Hu (C : Addr) (m : Str) (sp : Sp) (dvs : List V) (E : XK) (ta : TE) (t : TA) : TE := fun σ H Q => ta σ H fun x H1 => ∃ a dx fs, x = .ref a ∧ H1 a = some (.ins C dx fs) ∧ fs.lookup m = none ∧
 t σ H1 fun vs H2 => sp (x :: (vs ++ dvs)) H2 Q E
noncomputable def G8 (C : Addr) (sp : Sp) (dvs : List V) (E : XK) (t : TA) : TE := fun σ H Q => t σ H fun vs H1 => ∀ x dx, H1 x = none → H1 dx = none → dx ≠ x →
 sp (.ref x :: (vs ++ dvs)) (upd (upd H1 dx (.own x)) x (.ins C dx [])) (fun v H2 => v = .non ∧ Q (.ref x) H2) E
noncomputable def Binds (K : W.Frag) (fd : FuncData) (ps : List Str) (ds : List Value) : Prop :=
 ∀ (s : Shared) (us : List Value), K.In s.heap → (us ++ ds).length = ps.length → BindsTo s fd ⟨us, []⟩ (ps.zip (us ++ ds))
theorem Binds.all {K : W.Frag} {fd : FuncData} {ps : List Str} (h : ∀ us : List Value, us.length = ps.length → bindArgs fd ⟨us, []⟩ = pure (ps.zip us)) : Binds K fd ps [] := fun s us _ hl => by
 rw [qK] at hl ⊢
 exact .of_eq (h us hl)
noncomputable def E7 (CX : CXT) (X : Cx) (E : XK) : Prop := ∀ (pins : List (Addr × Obj)) (σ : St) (H : Hp) (s : Shared) (e : Value) (s' : Shared), Inv X pins σ H s → CX X.stack H s E e s' → X.xe e s'
section
variable {X : Cx} {CX : CXT} {k : Nat} {f C : Addr} {fd : FuncData} {ps : List Str} {sp : Sp} {dvs : List V} {ds : List Value} {E : XK} {x m : Str} {p pos apos : Pos} {e o : Expr} {es : List Expr} {ta : TE} {t : TA}
theorem Rp {pins : List (Addr × Obj)} {σ : St} {H : Hp} {s : Shared} {Q : VK} {us : List Value} {vs : List V} (F : Af X.prog X.w X.K X.mg X.base CX k f fd ps sp) (hr : CF k X.A) (hb : Binds X.K fd ps ds) (hd : Al dvs ds) (hx : E7 CX X E)
  (I : Inv X pins σ H s) (r : Al vs us) (h : sp (vs ++ dvs) H Q E) : wpAny (model X.prog X.w) X.A (call (.ref f) us) (EP X pins σ Q) X.xe s := by
 have r2 : Al (vs ++ dvs) (us ++ ds) := r.append hd
 have hl : (us ++ ds).length = ps.length := by rw [← r2.length]; exact F.len _ _ _ _ h
 refine wpAny_call (codeAny_mono (F.run X.A X.stack s H ⟨us, []⟩ (us ++ ds) (vs ++ dvs) Q E hr I.env0 (hb s us I.kIn hl) r2 h) fun r s' hq => ?_)
 cases r with
 | error e => exact hx pins σ H s e s' I hq
 | ok fl =>
  cases fl with
  | ret u => exact I.after hq
  | next => exact False.elim hq
  | brk => exact False.elim hq
  | cont => exact False.elim hq
theorem WT (F : Af X.prog X.w X.K X.mg X.base CX k f fd ps sp) (hr : CF k X.A) (hg : Gl X x) (hm : X.mg x = some (.ref f)) (hk : W.keepIn X.K (.ref f) = true) (hb : Binds X.K fd ps ds) (hd : Al dvs ds) (hx : E7 CX X E)
  (ha : PA X (e :: es) t) (hdb : (x == ("__debug__" : Str)) = false := by decide) (he : starEach (e :: es) X.env = (false, eval e X.env) :: starEach es X.env := by rfl) (hpl : (backTo pos (starEach es X.env)).any (·.1) = false := by rfl) :
  PE X (.Call (.Name x p) (e :: es) [] pos) (HX sp dvs E t) := by
 intro pins s σ H Q I h
 refine wpAny_Call_Name_kw (Kd I hg hm ?_ hdb)
 refine W.callWith_K (h₀ := X.base) I.ok.mod.kin hk (thn (ha pos pins s σ H _ I h) fun us s1 ⟨vs, H1, I1, r, q⟩ => ⟨I1.kIn, ?_⟩) he hpl
 exact Rp F hr hb hd hx I1 r q
theorem BR {pl : Sem Bool} (he : PE X o ta) (c : Cls X.K C) (hm : Rz X.K C m f) (F : Af X.prog X.w X.K X.mg X.base CX k f fd ps sp) (hr : CF k X.A) (hb : Binds X.K fd ps ds) (hd : Al dvs ds) (hx : E7 CX X E) (ha : PA X (e :: es) t)
  (hst : starEach (e :: es) X.env = (false, eval e X.env) :: starEach es X.env := by rfl) (hpl : (backTo pos (starEach es X.env)).any (·.1) = false := by rfl)
  (ht : eval (.Call (.Attribute o m apos) (e :: es) [] pos) X.env = (do
   let ov ← eval o X.env
   standAt apos.atName
   let (f, first) ← holding [ov] (getMethod ov m pl)
   callWith pos f first (backTo pos (starEach (e :: es) X.env)) (backToKw pos (keywordEach [] X.env))) := by rfl) :
  PE X (.Call (.Attribute o m apos) (e :: es) [] pos) (Hu C m sp dvs E ta t) := by
 intro pins s σ H Q I h
 refine W.methodCall_KW (pl := pl) (thn (he pins s σ H _ I h) fun u s1 zq => ?_) ht
 obtain ⟨x, H1, I1, rx, a, dx, fs, ex, ea, l, q⟩ := zq
 subst ex
 obtain rfl : u = Value.ref a := rx
 refine Ft I1 ea c hm l ?_
 refine W.callWith_K (first := [.ref a]) (h₀ := X.base) I.ok.mod.kin hm.kp (thn (ha pos pins s1 σ H1 _ I1 q) fun us s2 ⟨vs, H2, I2, r, q2⟩ => ⟨I2.kIn, ?_⟩) hst hpl
 exact Rp (us := .ref a :: us) (vs := .ref a :: vs) F hr hb hd hx I2 (.cons rfl r) q2
theorem NA {pl : Sem Bool} (he : PE X o ta) (c : Cls X.K C) (hm : Rz X.K C m f) (F : Af X.prog X.w X.K X.mg X.base CX k f fd ps sp) (hr : CF k X.A) (hb : Binds X.K fd ps ds) (hd : Al dvs ds) (hx : E7 CX X E)
  (ht : eval (.Call (.Attribute o m apos) [] [] pos) X.env = (do
   let ov ← eval o X.env
   standAt apos.atName
   let (f, first) ← holding [ov] (getMethod ov m pl)
   callWith pos f first (backTo pos (starEach [] X.env)) (backToKw pos (keywordEach [] X.env))) := by rfl) :
  PE X (.Call (.Attribute o m apos) [] [] pos) (Hu C m sp dvs E ta K9) := by
 intro pins s σ H Q I h
 refine W.methodCall_KW (pl := pl) (thn (he pins s σ H _ I h) fun u s1 zq => ?_) ht
 obtain ⟨x, H1, I1, rx, a, dx, fs, ex, ea, l, q⟩ := zq
 subst ex
 obtain rfl : u = Value.ref a := rx
 refine Ft I1 ea c hm l ?_
 exact W.callWith_K0 (first := [.ref a]) I1.kIn hm.kp (Rp (us := [.ref a]) (vs := [.ref a]) F hr hb hd hx I1 (.cons rfl .nil) q)
structure Mk (K : W.Frag) (C f : Addr) : Prop where
 makes : W.makesIn K C = true
 init : W.findIn K (.ref C) "__init__" = some (some (.ref f))
 fn : W.isFn K (.ref f) = true
 kp : W.keepIn K (.ref C) = true
theorem Uk {pins : List (Addr × Obj)} {σ : St} {H : Hp} {s : Shared} {Q : VK} {us : List Value} {vs : List V} (M : Mk X.K C f) (F : Af X.prog X.w X.K X.mg X.base CX k f fd ps sp) (hr : CF (k + 1) X.A) (hb : Binds X.K fd ps ds) (hd : Al dvs ds)
  (hx : E7 CX X E) (I : Inv X pins σ H s) (r : Al vs us)
  (h : ∀ x dx, H x = none → H dx = none → dx ≠ x → sp (.ref x :: (vs ++ dvs)) (upd (upd H dx (.own x)) x (.ins C dx [])) (fun v H2 => v = .non ∧ Q (.ref x) H2) E) :
  wpAny (model X.prog X.w) X.A (call (.ref C) us) (EP X pins σ Q) X.xe s := by
 have hq := h (s.heap.objs.size + 1) s.heap.objs.size (I.hok.fresh (Nat.le_succ _)) (I.hok.fresh (zG _)) (zX (Nat.lt_succ_self _))
 have I2 := Inv.made (C := C) I
 have r2 : Al (V.ref (s.heap.objs.size + 1) :: (vs ++ dvs)) (Value.ref (s.heap.objs.size + 1) :: (us ++ ds)) := .cons rfl (r.append hd)
 have hl : (Value.ref (s.heap.objs.size + 1) :: us ++ ds).length = ps.length := by
  have e := r2.length
  rw [F.len _ _ _ _ hq] at e
  exact e.symm
 refine wpAny_call (V3 (f := f) I.kIn M.makes M.init (beq_iff_eq.mp M.fn) (codeAny_mono (F.run _ X.stack _ _ ⟨Value.ref (s.heap.objs.size + 1) :: us, []⟩ (Value.ref (s.heap.objs.size + 1) :: (us ++ ds)) _ _ E (hr.make C us [])
  (I2.env0.make C us []) (hb _ (Value.ref (s.heap.objs.size + 1) :: us) I2.kIn hl) r2 hq) fun r s' hq' => ?_))
 cases r with
 | error e => exact hx pins σ _ _ e s' I2 hq'
 | ok fl =>
  cases fl with
  | ret u =>
   obtain ⟨v, H', I3, rv, ev, q3⟩ := I2.after hq'
   subst ev
   exact ⟨rv, ⟨V.ref (s.heap.objs.size + 1), H', I3, rfl, q3⟩⟩
  | next => exact False.elim hq'
  | brk => exact False.elim hq'
  | cont => exact False.elim hq'
theorem U0 (M : Mk X.K C f) (F : Af X.prog X.w X.K X.mg X.base CX k f fd ps sp) (hr : CF (k + 1) X.A) (hg : Gl X x) (hm : X.mg x = some (.ref C)) (hb : Binds X.K fd ps ds) (hd : Al dvs ds) (hx : E7 CX X E)
  (hdb : (x == ("__debug__" : Str)) = false := by decide) : PE X (.Call (.Name x p) [] [] pos) (G8 C sp dvs E K9) := by
 intro pins s σ H Q I h
 refine wpAny_Call_Name_kw (Kd I hg hm ?_ hdb)
 exact W.callWith_K0 I.kIn M.kp (Uk (us := []) M F hr hb hd hx I .nil h)
end
section
variable {X : Cx} {CX : CXT} {k : Nat} {f C : Addr} {fd : FuncData} {ps ks : List Str} {sp : Sp} {E : XK} {x m : Str} {p pos apos kpos : Pos} {e o : Expr} {es : List Expr} {kws : List Keyword} {te ta : TE} {t tk : TA} {nm : Option Str}
variable {g : List Value → List Value → List Value} {gV : List V → List V → List V}
end
structure AR (N P : List Str) (sc : Scope) : Prop where
 kind : sc.kind = .function
 co : sc.isCoroutine = false
 gen : sc.isGenerator = false
 nd : N.Nodup
 pre : N.take P.length = P
 par : ∀ x ∈ P, sc.names.lookup x = some .local ∨ sc.names.lookup x = some .cell
 nofree : ∀ y ∈ sc.names, y.2 ≠ .free
theorem O4 {kindOf : Str → Option NameKind} {x : Str} : ∀ {binds : List (Str × Value)} {m : Str → Option Value}, (∀ v, (x, v) ∉ binds) → bindL kindOf binds m x = m x
 | [], _, _ => rfl
 | (n, v) :: r, m, h => by
  unfold bindL
  rw [O4 fun w hw => h w (zD _ hw)]
  split
  ·have : x ≠ n := by rintro rfl; exact h v zR
   simp [this]
  ·rfl
theorem Ow {kindOf : Str → Option NameKind} {x : Str} : ∀ {binds : List (Str × Value)} {m : Str → Option Value}, (∀ v, (x, v) ∉ binds) → bindC kindOf binds m x = m x
 | [], _, _ => rfl
 | (n, v) :: r, m, h => by
  unfold bindC
  rw [Ow fun w hw => h w (zD _ hw)]
  split
  ·rfl
  ·have : x ≠ n := by rintro rfl; exact h v zR
   simp [this]
theorem Ph {kindOf : Str → Option NameKind} {x : Str} {v : Value} : ∀ {P : List Str} {vs : List Value} {i : Nat} {m : Str → Option Value}, P.Nodup → P[i]? = some x → vs[i]? = some v → kindOf x = some .local →
  bindL kindOf (P.zip vs) m x = some v
 | [], _, _, _, _, h, _, _ => by simp at h
 | _ :: _, [], _, _, _, _, h, _ => by simp at h
 | p :: P, w :: vs, 0, m, nd, h1, h2, hk => by
  simp at h1 h2; subst h1; subst h2
  show bindL kindOf ((p, w) :: P.zip vs) m p = _
  unfold bindL
  rw [O4 fun v hv => (qL.mp nd).1 (List.of_mem_zip hv).1, if_pos hk]
  simp
 | p :: P, w :: vs, i + 1, m, nd, h1, h2, hk => by
  show bindL kindOf ((p, w) :: P.zip vs) m x = _
  unfold bindL
  exact Ph (i := i) (qL.mp nd).2 (by simpa using h1) (by simpa using h2) hk
theorem Oq {kindOf : Str → Option NameKind} {x : Str} {v : Value} : ∀ {P : List Str} {vs : List Value} {i : Nat} {m : Str → Option Value}, P.Nodup → P[i]? = some x → vs[i]? = some v → kindOf x ≠ some .local →
  bindC kindOf (P.zip vs) m x = some v
 | [], _, _, _, _, h, _, _ => by simp at h
 | _ :: _, [], _, _, _, _, h, _ => by simp at h
 | p :: P, w :: vs, 0, m, nd, h1, h2, hk => by
  simp at h1 h2; subst h1; subst h2
  show bindC kindOf ((p, w) :: P.zip vs) m p = _
  unfold bindC
  rw [Ow fun v hv => (qL.mp nd).1 (List.of_mem_zip hv).1, if_neg hk]
  simp
 | p :: P, w :: vs, i + 1, m, nd, h1, h2, hk => by
  show bindC kindOf ((p, w) :: P.zip vs) m x = _
  unfold bindC
  exact Oq (i := i) (qL.mp nd).2 (by simpa using h1) (by simpa using h2) hk
noncomputable def start (N : List Str) (vs : List V) : St := vs.map some ++ List.replicate (N.length - vs.length) none
noncomputable def FM (CX : CXT) (P : Program) (w : World) (K : W.Frag) (mg : Str → Option Value) (base : Heap) (N : List Str) (qual : Str) (scope : Scope) (f : Addr) (cd : Value) (A : Around) (outer : List Env) (s : Shared) (H : Hp) (E : XK) : Cx where
 prog := P
 w := w
 K := K
 mg := mg
 base := base
 A := A.deeper (envOfC qual scope s.heap.objs.size f cd)
 N := N
 s₀ := s
 H₀ := H
 env := envOfC qual scope s.heap.objs.size f cd
 outer := outer
 stack := envOfC qual scope s.heap.objs.size f cd :: outer
 ex := []
 calm := true
 fn := fun _ => true
 pn := []
 xe := fun e s' => wpAny (model P w) (A.deeper (envOfC qual scope s.heap.objs.size f cd)) (leaving (envOfC qual scope s.heap.objs.size f cd) e) (fun _ s'' => CX outer H s E e s'') (fun e' s'' => CX outer H s E e' s'') s'
theorem Qw {sc : Scope} {n : Nat} {x : Str} (h : sc.names.lookup x = some .cell) : ∃ c, (cellsFrom n sc.names []).lookup x = some c := by
 have q := W.cellsFrom_some sc.names n [] (.inl h)
 exact Option.isSome_iff_exists.mp q
theorem Tj {CX : CXT} {P : Program} {w : World} {K : W.Frag} {mg : Str → Option Value} {base : Heap} {N ps : List Str} {qual : Str} {scope : Scope} {f : Addr} {cd : Value} {A : Around} {outer : List Env} {s s1 : Shared} {H : Hp} {E : XK} {us : List Value} {vs : List V}
  (S : AR N ps scope) (hd : A.handled = none) (e0 : SJ P w K mg base A outer s H) (hl : vs.length = ps.length) (r : Al vs us)
  (x : InCallC s s.heap.objs.size (bindL (envOfC qual scope s.heap.objs.size f cd).kindOf (ps.zip us) fun _ => none) (cellsFrom (s.heap.objs.size + 1) scope.names []) (bindC (envOfC qual scope s.heap.objs.size f cd).kindOf (ps.zip us) fun _ => none) s1) :
  Inv (FM CX P w K mg base N qual scope f cd A outer s H E) [] (start N vs) H s1 := by
 have hpl : ps.length ≤ N.length := by have := congrArg List.length S.pre; rw [zh] at this; lia
 obtain ⟨h1, tk, rfl, hk⟩ := x.done
 have noA : ∀ b : Addr, b ∉ (FM CX P w K mg base N qual scope f cd A outer s H E).ex := fun b z => absurd (show b ∈ ([] : List Addr) from z) (by simp)
 refine ⟨⟨e0.mod, S.kind, rfl, rfl, zG _, fun y z c h1 h2 => ?_, fun y hy => ?_, fun y c _ h => ?_, fun _ => hd, Around.frames_deeper e0.frames, .inr ⟨rfl, rfl⟩, fun b z => absurd z (noA b), e0.bs, e0.bsz, fun b _ _ => noA b, fun b z => absurd z (noA b), e0.funs, e0.frf⟩,
  rfl, e0.bare, Un.kept hk, ⟨_, x.toInCall.ns, fun i y v h1 h2 h3 => ?_⟩, fun y c h => ⟨_, x.cell y c h⟩, e0.hok.fresh (zG _), fun y c h => ?_, fun p hp => absurd (show p ∈ ([] : List (Addr × Obj)) from hp) (by simp), e0.hok.kept hk, ?_⟩
 ·exact name_of_addr x.apart (PySem.mem_of_lookup h1) (PySem.mem_of_lookup h2)
 ·have hy : scope.names.lookup y = some .cell ∨ scope.names.lookup y = some .free := hy
  rcases hy with hy | hy
  ·exact Qw hy
  ·exact absurd rfl (S.nofree _ (PySem.mem_of_lookup hy))
 ·exact Nat.le_of_lt (x.above y c (PySem.mem_of_lookup h))
 ·have hi : i < vs.length := by
   unfold start at h2
   by_cases hi : i < vs.length
   ·exact hi
   ·rw [zg (by simpa using hi)] at h2
    rw [List.getElem?_replicate] at h2
    split at h2 <;> cases h2
  have ha : vs[i]? = some v := by
   unfold start at h2
   rw [qF (by simpa using hi), zJ] at h2
   cases e : vs[i]? with
   | none => rw [e] at h2; cases h2
   | some a => rw [e] at h2; cases h2; rfl
  obtain ⟨u, hu, rv⟩ := r.get ha
  have hp : ps[i]? = some y := by
   rw [← S.pre, qG (by lia)]; exact h1
  have ndP : ps.Nodup := by rw [← S.pre]; exact S.nd.sublist (List.take_sublist _ _)
  refine ⟨u, rv, ?_⟩
  rcases S.par y (zU hp) with k | k
  ·exact .inl ⟨k, Ph ndP hp hu k⟩
  ·obtain ⟨c, e⟩ := Qw (n := s.heap.objs.size + 1) k
   refine .inr ⟨.inl k, c, e, ?_⟩
   have q := x.cell y c e
   rw [Oq ndP hp hu (by show scope.names.lookup y ≠ _; rw [k]; decide)] at q
   exact q
 ·exact e0.hok.fresh (Nat.le_of_lt (x.above y c (PySem.mem_of_lookup h)))
 ·unfold start
  show _ = N.length
  rw [zC, z5, List.length_replicate]
  lia
theorem Sq {CX : CXT} {P : Program} {w : World} {K : W.Frag} {mg : Str → Option Value} {base : Heap} {k : Nat} {f : Addr} {name qual : Str} {params : Arguments} {body : List Stmt} {scope : Scope} {dV kV doc pm cdv ct oc : Value} {an od : Option Addr}
  {osl : Array (Option Value)} {N ps : List Str} {sp : Sp} (lk : K.lookup f = some ⟨oc, od, .func (W.fnOf name qual params body scope dV kV doc pm an cdv ct), osl⟩) (hcd : W.codeIn K cdv qual = true) (S : AR N ps scope)
  (len : ∀ vs H Q E, sp vs H Q E → vs.length = ps.length)
  (hbody : ∀ (A : Around) (outer : List Env) (s : Shared) (H : Hp) (vs : List V) (Q : VK) (E : XK), CF k (A.deeper (envOfC qual scope s.heap.objs.size f cdv)) → sp vs H Q E →
   ∃ t, PSs (FM CX P w K mg base N qual scope f cdv A outer s H E) body t ∧ t { nx := fun _ H' => Q .non H', rt := Q } (start N vs) H) :
  Af P w K mg base CX (k + 1) f (W.fnOf name qual params body scope dV kV doc pm an cdv ct) ps sp := by
 refine ⟨len, fun A outer s H args us vs Q E hr e0 hb r hsp => ?_⟩
 have hl := len _ _ _ _ hsp
 have KX : K.In s.heap := e0.mod.kin.keeps fun b o e => (e0.bs b o e).1
 have lim : s.heap.NoLimit := e0.mod.nolimit.keeps fun b o e => (e0.bs b o e).1
 have hkind : ∀ y ∈ ps.zip us, scope.names.lookup y.1 = some .local ∨ (scope.names.lookup y.1 = some .cell ∧ ((cellsFrom (s.heap.objs.size + 1) scope.names []).lookup y.1).isSome = true) := fun ⟨n, v⟩ hy => by
  rcases S.par n (List.of_mem_zip hy).1 with q | q
  ·exact .inl q
  ·exact .inr ⟨q, W.cellsFrom_some _ _ _ (.inl q)⟩
 refine codeAny_call_function hr.depth (KX _ _ lk) rfl S.co S.gen rfl (W.codeRec_of KX hcd) (hb _ _ _ _ ?_)
 refine wpAny_newFunctionEnv_cells S.kind hkind fun env he s1 x => ?_
 subst he
 refine ⟨lim.keeps x.toInCall.keep, codeAny_func ?_⟩
 obtain ⟨t, ht, hq⟩ := hbody A outer s H vs Q E (hr.deeper _) hsp
 have I : Inv (FM CX P w K mg base N qual scope f cdv A outer s H E) [] (start N vs) H s1 := Tj S hr.hd e0 hl r x
 refine wpAny_mono (ht [] s1 (start N vs) H _ I hq) (fun fl s' hs => ?_) fun e s' hs => hs
 have fin : ∀ {σ' : St} {H' : Hp} {v : V} {u : Value}, Inv (FM CX P w K mg base N qual scope f cdv A outer s H E) [] σ' H' s' → RelV v u → Q v H' → CE outer P w H s Q u s' :=
  fun {σ' H' v u} J rv q => ⟨v, H', J.os, J.bare, J.base, J.hok, rv, q⟩
 cases fl with
 | ret u =>
  obtain ⟨v, σ', H', J, rv, q⟩ := hs
  exact fin J rv q
 | next =>
  obtain ⟨σ', H', J, q⟩ := hs
  exact fin (v := V.non) (u := Value.none) J rfl q
 | brk =>
  obtain ⟨_, _, _, q⟩ := hs
  exact False.elim q
 | cont =>
  obtain ⟨_, _, _, q⟩ := hs
  exact False.elim q
section
variable {X : Cx} {x : Str} {p pos : Pos} {e : Expr} {es : List Expr} {t : TA} {id T : String} {r : List V → Hp → VK → Prop}
noncomputable def tCB (r : List V → Hp → VK → Prop) (t : TA) : TE := fun σ H Q => t σ H fun vs H1 => r vs H1 Q
theorem AH (hc : Bl X (.builtin id) r) (hg : Gl X x) (hm : X.mg x = none) (hv : bootBuiltins x = some (.builtin id)) (ha : PA X (e :: es) t) (hn : x ≠ "__name__" := by decide) (hdb : (x == ("__debug__" : Str)) = false := by decide)
  (he : starEach (e :: es) X.env = (false, eval e X.env) :: starEach es X.env := by rfl) (hpl : (backTo pos (starEach es X.env)).any (·.1) = false := by rfl) : PE X (.Call (.Name x p) (e :: es) [] pos) (tCB r t) := by
 intro pins s σ H Q I h
 refine wpAny_Call_Name_kw (Jj I hg hm hv ?_ hn hdb)
 exact PyProof.Rows.callWith_builtin1 (thn (ha pos pins s σ H _ I h) fun us s1 ⟨vs, H1, I1, r1, q1⟩ => hc pins s1 σ H1 vs us Q I1 r1 q1) he hpl
theorem CO (hc : Bl X (.type T) r) (hg : Gl X x) (hm : X.mg x = none) (hv : bootBuiltins x = some (.type T)) (ha : PA X (e :: es) t) (hn : x ≠ "__name__" := by decide) (hdb : (x == ("__debug__" : Str)) = false := by decide)
  (he : starEach (e :: es) X.env = (false, eval e X.env) :: starEach es X.env := by rfl) (hpl : (backTo pos (starEach es X.env)).any (·.1) = false := by rfl) : PE X (.Call (.Name x p) (e :: es) [] pos) (tCB r t) := by
 intro pins s σ H Q I h
 refine wpAny_Call_Name_kw (Jj I hg hm hv ?_ hn hdb)
 exact PyProof.Rows.callWith_type1 (thn (ha pos pins s σ H _ I h) fun us s1 ⟨vs, H1, I1, r1, q1⟩ => hc pins s1 σ H1 vs us Q I1 r1 q1) he hpl
end
end L2
namespace HT
open PySem PyProof.Rows
noncomputable def lexLt : List Int → List Int → Bool
 | [], [] => false
 | [], _ :: _ => true
 | _ :: _, [] => false
 | x :: xs, y :: ys => if x = y then lexLt xs ys else decide (x < y)
theorem lexLt_cons (x y : Int) (xs ys : List Int) : lexLt (x :: xs) (y :: ys) = if x = y then lexLt xs ys else decide (x < y) := rfl
section
open PySem.SeqAt
open PySem.AutoSeq1 (wpAny_loadPart')
open PySem.MeetsSeq PySem.MeetsSeq2 PySem.MeetsSeq3
end
section
variable {prog : Program} {w : World} {A : Around} {E : Value → Shared → Prop} {s : Shared}
noncomputable def sIx (n d : Nat) : Option Int → Nat
 | none => d
 | some v => if v < 0 then (v + (n : Int)).toNat else min v.toNat n
theorem sIx_none (n d : Nat) : sIx n d none = d := rfl
theorem sIx_nat (n d k : Nat) : sIx n d (some (k : Int)) = min k n := by
 show (if (k : Int) < 0 then ((k : Int) + (n : Int)).toNat else min (k : Int).toNat n) = min k n
 rw [if_neg (by lia), Int.toNat_natCast]
end
end HT
namespace L2
open PySem PySem.Spec PyProof.Rows
noncomputable abbrev TO := St → Hp → (Option Int → Hp → Prop) → Prop
noncomputable def PO (X : Cx) (e : Option Expr) (t : TO) : Prop :=
 ∀ (pins : List (Addr × Obj)) (s : Shared) (σ : St) (H : Hp) (Q : Option Int → Hp → Prop), Inv X pins σ H s → t σ H Q →
  wpAny (model X.prog X.w) X.A (evalPart e X.env) (fun u s' => ∃ o H', Inv X pins σ H' s' ∧ IsPart u o ∧ Q o H') X.xe s
noncomputable def DB : TO := fun _ H Q => Q none H
noncomputable def IR (t : TE) : TO := fun σ H Q => t σ H fun x H1 => ∃ i, x = .int i ∧ Q (some i) H1
theorem intsAre_of {ns : List Int} : ∀ {us : List Value}, Al (ns.map V.int) us → IntsAre us ns := by
 induction ns with
 | nil => intro us r; rw [List.map_nil] at r; cases r; exact .nil
 | cons n ns ih =>
  intro us r
  rw [zZ] at r
  cases r with
  | cons r1 r2 =>
   obtain ⟨t, e⟩ := r1
   subst e
   exact .cons n t (ih r2)
section
variable {X : Cx} {e : Expr} {te : TE} {lo hi : Option Expr} {tl th : TO} {pos p2 : Pos}
theorem Hy : PO X none DB := by
 intro pins s σ H Q I h
 rw [evalPart_none]
 exact wpAny_pure ⟨none, H, I, .none, h⟩
theorem IB (h : PE X e te) : PO X (some e) (IR te) := by
 intro pins s σ H Q I hw
 rw [evalPart_some]
 refine thn (h pins s σ H _ I hw) fun u s1 zq => ?_
 obtain ⟨x, H1, I1, r1, q1⟩ := zq
 obtain ⟨i, rfl, q⟩ := q1
 obtain ⟨t, rfl⟩ := r1
 exact ⟨some i, H1, I1, .int i t, q⟩
noncomputable def SlR (X : Cx) (r : V → Option Int → Option Int → Hp → VK → Prop) : Prop :=
 ∀ (pins : List (Addr × Obj)) (s : Shared) (σ : St) (H : Hp) (x : V) (v vl vu : Value) (lo hi : Option Int) (sl : Addr) (Q : VK), Inv X pins σ H s → RelV x v → s.heap.IsSliceOf sl vl vu .none → IsPart vl lo → IsPart vu hi → r x lo hi H Q →
  ∃ T id, typeLookup (.type T) "__getitem__" = pure (some (.builtin id)) ∧ s.TypeIs v T ∧ wpAny (model X.prog X.w) X.A (getItem v (.ref sl)) (EP X pins σ Q) X.xe s
noncomputable def tSl (r : V → Option Int → Option Int → Hp → VK → Prop) (te : TE) (tl th : TO) : TE := fun σ H Q => te σ H fun x H1 => tl σ H1 fun l H2 => th σ H2 fun u H3 => r x l u H3 Q
theorem FC {r : V → Option Int → Option Int → Hp → VK → Prop} (hr : SlR X r) (he : PE X e te) (hl : PO X lo tl) (hu : PO X hi th) : PE X (.Subscript e (.Slice lo hi none p2) pos) (tSl r te tl th) := by
 intro pins s σ H Q I h
 refine Subscript_ (thn (he pins s σ H _ I h) fun v s1 zq => ?_)
 obtain ⟨x, H1, I1, r1, q1⟩ := zq
 refine wpAny_Slice (thn (hl pins s1 σ H1 _ I1 q1) fun vl s2 ⟨l, H2, I2, pl, q2⟩ => thn (hu pins s2 σ H2 _ I2 q2) fun vu s3 zq => ?_)
 obtain ⟨u, H3, I3, pu, q3⟩ := zq
 rw [evalPart_none]
 refine wpAny_pure ?_
 have I4 : Inv X pins σ H3 { s3 with heap := s3.heap.push { cls := .type "slice", data := .fields #[vl, vu, .none] } } := I3.kept (t' := s3.toks) fun b ob q => zB _ q
 obtain ⟨T, id, hT, ht, hg⟩ := hr pins { s3 with heap := s3.heap.push { cls := .type "slice", data := .fields #[vl, vu, .none] } } σ H3 x v vl vu l u s3.heap.objs.size Q I4 r1 (Heap.IsSliceOf.new ..) pl pu q3
 show wpAny (model X.prog X.w) X.A (subscriptTail e (.Slice lo hi none p2) v (.ref s3.heap.objs.size)) (EP X pins σ Q) X.xe { s3 with heap := s3.heap.push { cls := .type "slice", data := .fields #[vl, vu, .none] } }
 exact tail_any (ops := [.ref s3.heap.objs.size, v]) ht hT hg (by with_unfolding_all rfl)
noncomputable def Oh (xs : List V) (lo hi : Option Int) : List V := (xs.drop (HT.sIx xs.length 0 lo)).take (HT.sIx xs.length xs.length hi - HT.sIx xs.length 0 lo)
theorem Rl (xs : List V) (lo hi : Option Int) : (Oh xs lo hi).length ≤ xs.length := by
 unfold Oh
 rw [zh, zu]
 lia
end
noncomputable def ixN (n : Nat) (i : Int) : Option Nat := if 0 ≤ i then (if i < n then some i.toNat else none) else if -(n : Int) ≤ i then some (i + n).toNat else none
noncomputable def atI {α : Type} (xs : List α) (i : Int) : Option α := (ixN xs.length i).bind fun j => xs[j]?
theorem S5 {n : Nat} {i : Int} {j : Nat} (h : ixN n i = some j) : seqIndex? i n = some j ∧ j < n ∧ -(n : Int) ≤ i ∧ i < n := by
 unfold ixN at h
 by_cases h0 : 0 ≤ i
 ·rw [if_pos h0] at h
  by_cases h1 : i < n
  ·rw [if_pos h1] at h
   have e : i.toNat = j := zN h
   exact ⟨by rw [seqIndex_of h0 h1, e], by lia, by lia, h1⟩
  ·rw [if_neg h1] at h; cases h
 ·rw [if_neg h0] at h
  by_cases h1 : -(n : Int) ≤ i
  ·rw [if_pos h1] at h
   have e : (i + n).toNat = j := zN h
   exact ⟨by rw [seqIndex_neg (by lia) h1, e], by lia, h1, by lia⟩
  ·rw [if_neg h1] at h; cases h
theorem S4 {α : Type} {xs : List α} {i : Int} {v : α} (h : atI xs i = some v) : ∃ j, seqIndex? i xs.length = some j ∧ xs[j]? = some v ∧ j < xs.length ∧ -(xs.length : Int) ≤ i ∧ i < xs.length := by
 unfold atI at h
 cases e : ixN xs.length i with
 | none => rw [e] at h; cases h
 | some j =>
  rw [e] at h
  obtain ⟨h1, h2, h3, h4⟩ := S5 e
  exact ⟨j, h1, h, h2, h3, h4⟩
theorem Dp {α : Type} {xs : List α} {j : Nat} {v : α} (h : xs[j]? = some v) : atI xs (j : Int) = some v := by
 have hj : j < xs.length := (zA.mp h).1
 have e : ixN xs.length (j : Int) = some j := by
  unfold ixN
  rw [if_pos (by lia), if_pos (by lia)]; simp
 unfold atI; rw [e]; exact h
theorem Va {α : Type} (xs : List α) (v : α) : atI (xs ++ [v]) (-1) = some v := by
 have hl : (xs ++ [v]).length = xs.length + 1 := by simp
 have e : ixN (xs ++ [v]).length (-1) = some xs.length := by
  unfold ixN
  rw [hl, if_neg (by decide), if_pos (by lia)]
  congr 1
  lia
 unfold atI
 rw [e]
 show (xs ++ [v])[xs.length]? = some v
 simp
noncomputable def So (b : Expr) : Prop := ∀ o i, subscripted b false o i = operate [o, i] (getItem o i)
noncomputable def IxR (X : Cx) (r : R2) : Prop :=
 ∀ (value slice : Expr) (pins : List (Addr × Obj)) (s : Shared) (σ : St) (H : Hp) (x y : V) (v u : Value) (Q : VK), Inv X pins σ H s → RelV x v → RelV y u → r x y H Q →
  subscripted slice false v u = operate [v, u] (getItem v u) → wpAny (model X.prog X.w) X.A (subscriptTail value slice v u) (EP X pins σ Q) X.xe s
noncomputable def MtR (X : Cx) (id : String) (r : V → List V → Hp → VK → Prop) : Prop :=
 ∀ (pins : List (Addr × Obj)) (s : Shared) (σ : St) (H : Hp) (x : V) (xs : List V) (v : Value) (us : List Value) (Q : VK), Inv X pins σ H s → RelV x v → Al xs us → r x xs H Q →
  wpAny (model X.prog X.w) X.A (call (.builtin id) (v :: us)) (EP X pins σ Q) X.xe s
section
variable {X : Cx} {a b : Expr} {ta tb : TE} {pos : Pos}
theorem Vt {r : R2} (hr : IxR X r) (ha : PE X a ta) (hb : PE X b tb) (hs : So b) : PE X (.Subscript a b pos) (tOp r ta tb) := by
 intro pins s σ H Q I h
 exact Subscript_ (Yg ha hb I h fun v u s2 x y H2 I2 rx ry q => hr a b pins s2 σ H2 x y v u Q I2 rx ry q (hs _ _))
noncomputable def Mn (K : W.Frag) : R2 := fun x y H Q => ∃ p xs i v, x = .ref p ∧ y = .int i ∧ SqL K H p xs ∧ atI xs i = some v ∧ Q v H
noncomputable def Me (K : W.Frag) : R2 := fun x y H Q => ∃ p xs i v, x = .ref p ∧ y = .int i ∧ SqT K H p xs ∧ atI xs i = some v ∧ Q v H
theorem AM : IxR X (Mn X.K) := by
 intro value slice pins s σ H x y v u Q I rx ry h hs
 obtain ⟨p, xs, i, z, rfl, rfl, hq, he, q⟩ := h
 cases rx
 obtain ⟨t, rfl⟩ := ry
 obtain ⟨its, r, pl, hz⟩ := I.list hq
 obtain ⟨j, h1, h2, h3, h4, h5⟩ := S4 he
 obtain ⟨w, ew, rw'⟩ := r.get h2
 have hl := r.length
 have hn := Nl
 have fin : EP X pins σ Q w s := ⟨z, H, I, rw', q⟩
 by_cases h0 : 0 ≤ i
 ·have hj : i.toNat = j := by
   rw [seqIndex_of h0 h5] at h1
   exact zN h1
  exact item_listR pl.isList h0 (by lia) (by rw [hj]; simpa using ew) fin hs
 ·have hj : (i + (its.toArray.size : Int)).toNat = j := by
   rw [seqIndex_neg (by lia) h4] at h1
   rw [zQ, ← hl]
   exact zN h1
  exact subscriptTail_builtinR (x := w) pl.isList.typeIs slot_list_getitem.lookup
   (wpAny_getItem_list_neg (Q := fun r s' => r = w ∧ EP X pins σ Q r s') pl.isList (by lia) (by rw [zQ] <;> lia) (by lia) (by rw [hj]; simpa using ew) ⟨rfl, fin⟩) hs
theorem AS : IxR X (Me X.K) := by
 intro value slice pins s σ H x y v u Q I rx ry h hs
 obtain ⟨p, xs, i, z, rfl, rfl, hq, he, q⟩ := h
 cases rx
 obtain ⟨t, rfl⟩ := ry
 obtain ⟨its, r, pl, hz⟩ := I.tuple hq
 obtain ⟨j, h1, h2, h3, h4, h5⟩ := S4 he
 obtain ⟨w, ew, rw'⟩ := r.get h2
 have hl := r.length
 have hn := Nl
 have fin : EP X pins σ Q w s := ⟨z, H, I, rw', q⟩
 exact subscriptTail_builtinR (x := w) pl.typeIs slot_tuple_getitem.lookup
  (getItem_tuple (j := j) (Q := fun r s' => r = w ∧ EP X pins σ Q r s') pl (by lia) (by lia) (by rw [zQ, ← hl]; exact h1) (by simpa using ew) ⟨rfl, fin⟩) hs
theorem Rs (its : List Value) (n j : Nat) (u : Value) : Obj.mapSeq (·.setIfInBounds j u) { cls := .type "list", data := .seq its.toArray n } = { cls := .type "list", data := .seq (its.set j u).toArray n } := by
 simp [Obj.mapSeq]
theorem Inv.lst {pins : List (Addr × Obj)} {σ : St} {H : Hp} {s : Shared} {p : Addr} {xs : List V} (I : Inv X pins σ H s) (h : H p = some (.lst xs)) :
  ∃ (its : List Value) (n : Nat), Al xs its ∧ s.heap.get? p = some { cls := .type "list", data := .seq its.toArray n } ∧ xs.length ≤ sizeLine := by
 obtain ⟨z, its, n, r, e⟩ := I.hok p _ h
 exact ⟨its, n, r, e, z⟩
theorem Inv.lstUpd {pins : List (Addr × Obj)} {σ : St} {H : Hp} {s : Shared} {p : Addr} {xs ys : List V} {its its' : List Value} {n n' : Nat} {f : Obj → Obj} (I : Inv X pins σ H s) (h : H p = some (.lst xs))
  (ho : s.heap.get? p = some { cls := .type "list", data := .seq its.toArray n }) (hf : f { cls := .type "list", data := .seq its.toArray n } = { cls := .type "list", data := .seq its'.toArray n' }) (r : Al ys its') (hz : ys.length ≤ sizeLine) (t : Nat) :
  Inv X pins σ (upd H p (.lst ys)) { s with heap := s.heap.update p f, toks := t } := by
 have e : (s.heap.update p f).get? p = some { cls := .type "list", data := .seq its'.toArray n' } := by
  rw [Heap.get?_update_self f ho (by rw [hf] <;> rfl), hf]
 refine I.write (x := p) (e := p) (by rw [h]; trivial) (.inl rfl) (fun b u hb q => (Heap.get?_update_other _ _ (Ne.symm hb)).trans q) ⟨_, e⟩ ?_
 exact ⟨hz, its', n', r, e⟩
noncomputable def IZ : V → V → V → Hp → (Hp → Prop) → Prop := fun o i v H Q => ∃ p xs k j, o = .ref p ∧ i = .int k ∧ H p = some (.lst xs) ∧ ixN xs.length k = some j ∧ Q (upd H p (.lst (xs.set j v)))
theorem Uo : PSet X IZ := by
 intro pins s σ H o i v ov iv u Q I ro ri rv h
 obtain ⟨p, xs, k, j, rfl, rfl, hp, hj, q⟩ := h
 cases ro
 obtain ⟨t, rfl⟩ := ri
 obtain ⟨its, n, r, ho, hz⟩ := I.lst hp
 obtain ⟨h1, h2, h3, h4⟩ := S5 hj
 have hl := r.length
 have hn := Nl
 have I' : Inv X pins σ (upd H p (.lst (xs.set j v))) { s with heap := s.heap.update p (Obj.mapSeq (·.setIfInBounds j u)) } :=
  I.lstUpd hp ho (Rs its n j u) (r.set rv j) (by rw [List.length_set]; exact hz) s.toks
 by_cases h0 : 0 ≤ k
 ·have hk : k.toNat = j := by
   rw [seqIndex_of h0 h4] at h1
   exact zN h1
  exact W.ki_setAt ho h0 (by lia) (by rw [zQ, ← hl]; exact h4) (by rw [hk]; exact ⟨_, I', q⟩)
 ·have hk : (k + (its.toArray.size : Int)).toNat = j := by
   rw [seqIndex_neg (by lia) h3] at h1
   rw [zQ, ← hl]
   exact zN h1
  exact W.ki_setBack ho (by lia) (by rw [zQ, ← hl]; exact h3) (by lia) (by rw [hk]; exact ⟨_, I', q⟩)
theorem Pz (lo hi : Option Int) (n : Nat) : (sliceBounds lo hi none n).1 = ((HT.sIx n 0 lo : Nat) : Int) ∧ (sliceBounds lo hi none n).2.1 = ((HT.sIx n n hi : Nat) : Int) ∧ (sliceBounds lo hi none n).2.2 = 1 := by
 refine ⟨?_, ?_, rfl⟩
 ·cases lo with
  | none => simp [sliceBounds, HT.sIx]
  | some i =>
   simp only [sliceBounds, HT.sIx, Option.getD_none, show (1 : Int) > 0 by decide, if_true]
   by_cases h : i < 0
   ·simp only [h, if_true] <;> lia
   ·simp only [h, if_false] <;> lia
 ·cases hi with
  | none => simp [sliceBounds, HT.sIx]
  | some i =>
   simp only [sliceBounds, HT.sIx, Option.getD_none, show (1 : Int) > 0 by decide, if_true]
   by_cases h : i < 0
   ·simp only [h, if_true] <;> lia
   ·simp only [h, if_false] <;> lia
theorem OW (its : List Value) (lo hi : Option Int) : slicePick its.toArray lo hi none = ((its.drop (HT.sIx its.length 0 lo)).take (HT.sIx its.length its.length hi - HT.sIx its.length 0 lo)).toArray := by
 obtain ⟨h1, h2, h3⟩ := Pz lo hi its.toArray.size
 unfold slicePick
 rw [h1, h2, h3]
 simp only [sliceRange_one, pick_run, zQ] <;> rfl
noncomputable def rSlL (K : W.Frag) : V → Option Int → Option Int → Hp → VK → Prop := fun x lo hi H Q => ∃ a xs, x = .ref a ∧ SqL K H a xs ∧ ∀ p, H p = none → Q (.ref p) (upd H p (.lst (Oh xs lo hi)))
theorem WB : SlR X (rSlL X.K) := by
 intro pins s σ H x v vl vu lo hi sl Q I rx hs pl pu h
 obtain ⟨a, xs, rfl, hx, q⟩ := h
 cases rx
 obtain ⟨its, r, ht, hz⟩ := I.list hx
 have hlen := r.length
 refine ⟨"list", _, slot_list_getitem.lookup, ht.isList.typeIs, ?_⟩
 refine wpAny_getItem_list_slice ht.isList hs pl pu .none (by simp) ?_ (by rw [zQ] <;> lia)
 rw [OW, ← hlen]
 refine ⟨.ref s.heap.objs.size, _, I.laid (t' := s.toks) (o := .lst (Oh xs lo hi)) (fun b ob q => zB _ q) (zG _) ?_, rfl, q _ (I.hok.fresh (zG _))⟩
 exact ⟨zT (Rl xs lo hi) hz, _, 0, (r.drop (HT.sIx xs.length 0 lo)).take (HT.sIx xs.length xs.length hi - HT.sIx xs.length 0 lo), zY _ rfl⟩
noncomputable def KA : V → Bool
 | .non => true
 | .bl _ => true
 | .int _ => true
 | .str _ => true
 | _ => false
noncomputable def eqV : V → V → Bool
 | .non, .non => true
 | .bl a, .bl b => a == b
 | .bl a, .int b => (if a then 1 else 0) == b
 | .int a, .bl b => a == (if b then 1 else 0)
 | .int a, .int b => a == b
 | .str a, .str b => a == b
 | _, _ => false
theorem YR {A : Around} {s : Shared} {y x : V} {u v : Value} (ry : RelV y u) (rx : RelV x v) (fy : KA y = true) (fx : KA x = true) : SeqAt.EqAt A s u v (eqV y x) := by
 cases y with
 | non =>
  cases ry
  cases x with
  | non => cases rx; exact SeqAt.EqAt.same _
  | bl b => cases rx; exact SeqAt.EqAt.none_bool b
  | int b => obtain ⟨t, rfl⟩ := rx; exact SeqAt.EqAt.none_int b t
  | str b => obtain ⟨t, rfl⟩ := rx; exact SeqAt.EqAt.none_str b t
  | _ => exact absurd (show false = true from fx) zS
 | bl a =>
  cases ry
  cases x with
  | non => cases rx; exact SeqAt.EqAt.bool_none a
  | bl b => cases rx; exact SeqAt.EqAt.bool_bool a b
  | int b => obtain ⟨t, rfl⟩ := rx; exact SeqAt.EqAt.bool_int a b t
  | str b => obtain ⟨t, rfl⟩ := rx; exact SeqAt.EqAt.bool_str a b t
  | _ => exact absurd (show false = true from fx) zS
 | int a =>
  obtain ⟨t', rfl⟩ := ry
  cases x with
  | non => cases rx; exact SeqAt.EqAt.int_none a t'
  | bl b => cases rx; exact SeqAt.EqAt.int_bool a t' b
  | int b => obtain ⟨t, rfl⟩ := rx; exact SeqAt.EqAt.int_int a t' b t
  | str b => obtain ⟨t, rfl⟩ := rx; exact SeqAt.EqAt.int_str a t' b t
  | _ => exact absurd (show false = true from fx) zS
 | str a =>
  obtain ⟨t', rfl⟩ := ry
  cases x with
  | non => cases rx; exact SeqAt.EqAt.str_none a t'
  | bl b => cases rx; exact SeqAt.EqAt.str_bool a t' b
  | int b => obtain ⟨t, rfl⟩ := rx; exact SeqAt.EqAt.str_int a t' b t
  | str b => obtain ⟨t, rfl⟩ := rx; exact SeqAt.EqAt.str_str a t' b t
  | _ => exact absurd (show false = true from fx) zS
 | _ => exact absurd (show false = true from fy) zS
noncomputable def eqU (x : V) (u : Value) : Bool := match u with
 | .none => eqV .non x
 | .bool b => eqV (.bl b) x
 | .int i _ => eqV (.int i) x
 | .str z _ => eqV (.str z) x
 | _ => false
theorem U7 {x y : V} {u : Value} (r : RelV y u) (f : KA y = true) : eqU x u = eqV y x := by
 cases y with
 | non => cases r; rfl
 | bl b => cases r; rfl
 | int i => obtain ⟨t, rfl⟩ := r; rfl
 | str z => obtain ⟨t, rfl⟩ := r; rfl
 | _ => exact absurd (show false = true from f) zS
theorem P6 {x : V} : ∀ {xs : List V} {us : List Value}, Al xs us → xs.all KA = true → us.any (eqU x) = xs.any fun y => eqV y x
 | _, _, .nil, _ => rfl
 | y :: xs, u :: us, .cons r t, f => by
  rw [List.all_cons, Bool.and_eq_true] at f
  rw [List.any_cons, List.any_cons, U7 r f.1, P6 t f.2]
theorem Ml {A : Around} {s : Shared} {x : V} {v : Value} (rx : RelV x v) (fx : KA x = true) : ∀ {xs : List V} {us : List Value}, Al xs us → xs.all KA = true → ∀ u ∈ us, SeqAt.EqAt A s u v (eqU x u)
 | _, _, .nil, _ => fun u hu => by cases hu
 | y :: xs, u :: us, .cons r t, f => fun u' hu => by
  rw [List.all_cons, Bool.and_eq_true] at f
  rcases zL.mp hu with rfl | hu
  ·rw [U7 r f.1]; exact YR r rx f.1 fx
  ·exact Ml rx fx t f.2 u' hu
noncomputable def inV (x : V) (xs : List V) : Bool := xs.any fun y => eqV y x
noncomputable def rIn (K : W.Frag) (neg : Bool) : R2 := fun x y H Q => ∃ p xs, y = .ref p ∧ (SqL K H p xs ∨ SqT K H p xs) ∧ KA x = true ∧ xs.all KA = true ∧ Q (.bl (if neg then !inV x xs else inV x xs)) H
theorem T9 : OpR X (compareOp .In) (rIn X.K false) := by
 intro pins s σ H x y v u Q I rx ry h
 obtain ⟨p, xs, rfl, hq, fx, fs, q⟩ := h
 cases ry
 rcases hq with hq | hq
 ·obtain ⟨its, r, pl, hz⟩ := I.list hq
  refine SeqAt.in_listAt (eqU x) pl.isList (fun w hw => Ml rx fx r fs w (by simpa using hw)) ⟨.bl _, H, I, rfl, ?_⟩
  rw [show its.toArray.any (eqU x) = its.any (eqU x) by simp, P6 r fs]
  exact q
 ·obtain ⟨its, r, pl, hz⟩ := I.tuple hq
  refine SeqAt.in_tupleAt (eqU x) pl (fun w hw => Ml rx fx r fs w (by simpa using hw)) ⟨.bl _, H, I, rfl, ?_⟩
  rw [show its.toArray.any (eqU x) = its.any (eqU x) by simp, P6 r fs]
  exact q
theorem AJ : Bl X (.builtin "len") (fun xs H Q => ∃ p ys, xs = [.ref p] ∧ (SqL X.K H p ys ∨ SqT X.K H p ys) ∧ Q (.int ys.length) H) := by
 intro pins s σ H xs us Q I r h
 obtain ⟨p, ys, rfl, hq, q⟩ := h
 obtain ⟨u, rfl, rx⟩ := vals1 r
 cases rx
 have hn := Nl
 rcases hq with hq | hq
 ·obtain ⟨its, r', pl, hz⟩ := I.list hq
  have hlen := r'.length
  exact Calls.call_len_list pl.isList (by simp only [zQ] <;> lia) ⟨.int ys.length, H, I.tok _, ⟨s.toks + 1, by rw [zQ, hlen]⟩, q⟩
 ·obtain ⟨its, r', pl, hz⟩ := I.tuple hq
  have hlen := r'.length
  exact len_tuple pl (by simp only [zQ] <;> lia) ⟨.int ys.length, H, I.tok _, ⟨s.toks + 1, by rw [zQ, hlen]⟩, q⟩
theorem Px : Bl X (.type "list") (fun xs H Q => ∃ p ys, xs = [.ref p] ∧ (SqL X.K H p ys ∨ SqT X.K H p ys) ∧ ∀ l, H l = none → Q (.ref l) (upd H l (.lst ys))) := by
 intro pins s σ H xs us Q I r h
 obtain ⟨p, ys, rfl, hq, q⟩ := h
 obtain ⟨u, rfl, rx⟩ := vals1 r
 cases rx
 have fin : ∀ (its : List Value), Al ys its → ys.length ≤ sizeLine → ∀ (h' : Heap) (c' : Nat), (∀ b o', s.heap.get? b = some o' → h'.get? b = some o') →
   h'.get? s.heap.objs.size = some { cls := .type "list", dict := none, data := .seq its.toArray c', slots := #[] } → EP X pins σ Q (.ref s.heap.objs.size) { s with heap := h' } := fun its r' hz h' c' kp e =>
  ⟨.ref s.heap.objs.size, _, I.laid (t' := s.toks) kp (zG _) (show A3 X.prog X.w _ h' _ (.lst ys) from ⟨hz, its, c', r', e⟩), rfl, q _ (I.hok.fresh (zG _))⟩
 rcases hq with hq | hq
 ·obtain ⟨its, r', pl, hz⟩ := I.list hq
  have hlen := r'.length
  obtain ⟨o, ho, hc, n, hd⟩ := pl.isList
  exact call_list_seq p (.inl rfl) ho hc hd (fun h' c' kp e => fin its r' hz h' c' kp e) (by simp only [zQ] <;> lia)
 ·obtain ⟨its, r', pl, hz⟩ := I.tuple hq
  have hlen := r'.length
  obtain ⟨o, ho, hc, n, hd⟩ := pl
  exact call_list_seq p (.inr rfl) ho hc hd (fun h' c' kp e => fin its r' hz h' c' kp e) (by simp only [zQ] <;> lia)
noncomputable def tyV (K : W.Frag) (T : String) (x : V) (H : Hp) : Prop := match x with
 | .str _ => T = "str"
 | .int _ => T = "int"
 | .ref p => (T = "list" ∧ ∃ xs, SqL K H p xs) ∨ (T = "tuple" ∧ ∃ o, K.lookup p = some o ∧ o.cls = .type "tuple" ∧ o.dict = none) ∨
   (T = "dict" ∧ ((∃ kvs, H p = some (.dK kvs)) ∨ ∃ kvs, H p = some (.dT kvs))) ∨ (T = "set" ∧ ∃ S n, H p = some (.set S n))
 | _ => False
theorem Vm {pins : List (Addr × Obj)} {σ : St} {H : Hp} {s : Shared} {T : String} {x : V} {v : Value} (I : Inv X pins σ H s) (r : RelV x v) (ty : tyV X.K T x H) :
  s.TypeIs v T ∧ ∀ a, v = .ref a → ∃ ob, s.heap.get? a = some ob ∧ ob.dict = none := by
 cases x with
 | str z =>
  obtain ⟨t, rfl⟩ := r
  cases (show T = "str" from ty)
  exact ⟨typeIs_str s z t, fun _ e => nomatch e⟩
 | int i =>
  obtain ⟨t, rfl⟩ := r
  cases (show T = "int" from ty)
  exact ⟨typeIs_int s i t, fun _ e => nomatch e⟩
 | ref p =>
  cases r
  rcases ty with ⟨rfl, xs, hq⟩ | ⟨rfl, o, hk, hc, hd⟩ | ⟨rfl, hk⟩ | ⟨rfl, S, n, hk⟩
  ·obtain ⟨its, _, pl, _⟩ := I.list hq
   refine ⟨pl.isList.typeIs, fun a e => ?_⟩
   cases e
   obtain ⟨o, n, e, c, hd, _⟩ := pl
   exact ⟨o, e, hd⟩
  ·refine ⟨⟨o, I.kIn p o hk, hc⟩, fun a e => ?_⟩
   cases e
   exact ⟨o, I.kIn _ o hk, hd⟩
  ·have z : ∃ o, s.heap.get? p = some o ∧ o.ExactDict := by
    rcases hk with ⟨kvs, hk⟩ | ⟨kvs, hk⟩
    ·obtain ⟨_, _, _, _, o, _, _, e, ex, _⟩ := I.hok p _ hk
     exact ⟨o, e, ex⟩
    ·obtain ⟨_, _, _, _, o, _, _, e, ex, _⟩ := I.hok p _ hk
     exact ⟨o, e, ex⟩
   obtain ⟨o, e, ex⟩ := z
   refine ⟨⟨o, e, ex.1⟩, fun a e2 => ?_⟩
   cases e2
   exact ⟨o, e, ex.2.1⟩
  ·obtain ⟨o, _, _, _, e, ex, _⟩ := I.hok p _ hk
   refine ⟨⟨o, e, ex.1⟩, fun a e2 => ?_⟩
   cases e2
   exact ⟨o, e, ex.2.1⟩
 | _ => exact False.elim ty
noncomputable def aS (K : W.Frag) (T : String) (r : V → List V → Hp → VK → Prop) (to : TE) : TE := fun σ H Q => to σ H fun x H1 => tyV K T x H1 ∧ r x [] H1 Q
noncomputable def tBM (K : W.Frag) (T : String) (r : V → List V → Hp → VK → Prop) (to : TE) (t : TA) : TE := fun σ H Q => to σ H fun x H1 => tyV K T x H1 ∧ t σ H1 fun xs H2 => r x xs H2 Q
variable {o e : Expr} {es : List Expr} {to : TE} {t : TA} {name : Str} {apos cpos : Pos} {T id : String} {r : V → List V → Hp → VK → Prop}
theorem VV (pa : PlainAttrs T) (slot : Slot T name id) (hty : typeOf (.builtin id) = pure (.type "method_descriptor")) (hm : MtR X id r) (ho : PE X o to)
  (hbase : attributeBase o name X.env (eval o X.env) = eval o X.env := by rfl) (hline : (apos.endLine == cpos.line) = true := by rfl) : PE X (.Call (.Attribute o name apos) [] [] cpos) (aS X.K T r to) := by
 intro pins s σ H Q I h
 refine wpAny_Call_method0_late hbase hline (thn (ho pins s σ H _ I h) fun v s1 zq => ?_)
 obtain ⟨x, H1, I1, r1, ty, q1⟩ := zq
 obtain ⟨h1, h2⟩ := Vm I1 r1 ty
 exact ⟨T, id, pa, slot, hty, h1, h2, Calls.callWith_builtin rfl (PySem.evalArgs_none (hm pins s1 σ H1 x [] v [] Q I1 r1 .nil q1))⟩
theorem XH (pa : PlainAttrs T) (slot : Slot T name id) (hty : typeOf (.builtin id) = pure (.type "method_descriptor")) (hm : MtR X id r) (ho : PE X o to) (ha : PA X (e :: es) t)
  (hbase : attributeBase o name X.env (eval o X.env) = eval o X.env := by rfl)
  (hfew : ((backTo cpos (starEach (e :: es) X.env)).all (fun x => !x.1) && (backToKw cpos (keywordEach [] X.env)).all (fun x => x.1.isSome)
   && decide ((e :: es).length + ([] : List Keyword).length + (if ([] : List Keyword).isEmpty then 0 else 1) < 30)) = true := by rfl)
  (hline : (apos.endLine == cpos.line) = true := by rfl) (hs : starEach (e :: es) X.env = (false, eval e X.env) :: starEach es X.env := by rfl) (hplain : (backTo cpos (starEach es X.env)).any (·.1) = false := by rfl) :
  PE X (.Call (.Attribute o name apos) (e :: es) [] cpos) (tBM X.K T r to t) := by
 intro pins s σ H Q I h
 refine wpAny_Call_method_late hbase hfew hline rfl (thn (ho pins s σ H _ I h) fun v s1 zq => ?_)
 obtain ⟨x, H1, I1, r1, ty, q1⟩ := zq
 obtain ⟨h1, h2⟩ := Vm I1 r1 ty
 refine ⟨T, id, pa, slot, hty, h1, h2, ?_⟩
 have hA := ha cpos pins s1 σ H1 _ I1 q1
 rw [hs] at hA ⊢
 refine Calls.callWith_builtin (by show (false || (backTo cpos (starEach es X.env)).any (·.1)) = false; rw [hplain] <;> rfl) (Calls.evalArgs_plain ?_)
 exact thn hA fun us s2 ⟨vs, H2, I2, r2, q2⟩ => hm pins s2 σ H2 x vs v us Q I2 r1 r2 q2
end
noncomputable def MtM (X : Cx) (id : String) (r : V → List V → Hp → VK → Prop) : Prop :=
 ∀ (pins : List (Addr × Obj)) (s : Shared) (σ : St) (H : Hp) (x : V) (xs : List V) (v : Value) (us : List Value) (Q : VK), Inv X pins σ H s → RelV x v → Al xs us → r x xs H Q →
  wpAny (model X.prog X.w) X.A (call (.builtin id) (v :: us)) (EP X pins σ Q) X.xe s
theorem Al.one {x : V} {us : List Value} (h : Al [x] us) : ∃ u, us = [u] ∧ RelV x u := by
 cases h with
 | cons r q =>
  cases q
  exact ⟨_, rfl, r⟩
theorem Al.zero : ∀ {us : List Value}, Al [] us → us = []
 | _, .nil => rfl
theorem Al.dropLast {xs : List V} {us : List Value} (h : Al xs us) : Al xs.dropLast us.dropLast := by
 induction h with
 | nil => exact .nil
 | cons r t ih =>
  cases t with
  | nil => exact .nil
  | cons q t' => exact .cons r ih
theorem R8 {α : Type} (l : List α) : l.eraseIdx (l.length - 1) = l.dropLast := by
 induction l with
 | nil => rfl
 | cons a r ih =>
  cases r with
  | nil => rfl
  | cons b r =>
   have e : (a :: b :: r).length - 1 = ((b :: r).length - 1) + 1 := by
    have h1 : (a :: b :: r).length = r.length + 2 := rfl
    have h2 : (b :: r).length = r.length + 1 := rfl
    lia
   rw [e, List.eraseIdx_cons_succ, ih]
   all_goals rfl
section
variable {X : Cx} {pins : List (Addr × Obj)} {σ : St} {H : Hp} {s : Shared} {l b : Addr} {xs ys zs : List V}
theorem Inv.lset {its its' : List Value} {n : Nat} {f : Array Value → Array Value} {t' : Nat} (I : Inv X pins σ H s) (hH : H l = some (.lst xs))
  (e : s.heap.get? l = some { cls := .type "list", data := .seq its.toArray n }) (hf : f its.toArray = its'.toArray) (hv : Al ys its') (hz : ys.length ≤ sizeLine) :
  Inv X pins σ (upd H l (.lst ys)) { s with heap := s.heap.update l (Obj.mapSeq f), toks := t' } := by
 have q := PySem.IsL.update e f
 rw [hf] at q
 refine I.write (x := l) (e := l) (by rw [hH]; exact trivial) (.inl rfl) (fun b' u hb hu => (Heap.get?_update_other s.heap (Obj.mapSeq f) (Ne.symm hb)).trans hu) ⟨_, q⟩ ?_
 exact ⟨hz, its', _, hv, q⟩
theorem Inv.lnew {its : List Value} {t' : Nat} (I : Inv X pins σ H s) (hv : Al ys its) (hz : ys.length ≤ sizeLine) :
  Inv X pins σ (upd H s.heap.objs.size (.lst ys)) { s with heap := s.heap.push { cls := .type "list", data := .seq its.toArray }, toks := t' } :=
 I.laid (fun _ _ q => zB _ q) (zG _) ⟨hz, its, 0, hv, zY _ rfl⟩
theorem Inv.fresh (I : Inv X pins σ H s) : H s.heap.objs.size = none := I.hok.fresh (zG _)
theorem Inv.lstM (I : Inv X pins σ H s) (hH : H l = some (.lst xs)) : xs.length ≤ sizeLine ∧ ∃ (its : List Value) (n : Nat), Al xs its ∧ xs.length = its.length ∧ s.heap.get? l = some { cls := .type "list", data := .seq its.toArray n } := by
 obtain ⟨z, its, n, r, e⟩ := I.hok l _ hH
 exact ⟨z, its, n, r, r.length, e⟩
end
section
variable {X : Cx}
noncomputable def Wh : V → List V → Hp → VK → Prop := fun x vs H Q => ∃ l xs y, x = .ref l ∧ vs = [y] ∧ H l = some (.lst xs) ∧ xs.length < sizeLine ∧ Q .non (upd H l (.lst (xs ++ [y])))
theorem Pk : MtM X "list.append" Wh := by
 intro pins s σ H x vs v us Q I rx rv h
 obtain ⟨l, xs, y, rfl, rfl, hH, hz, q⟩ := h
 cases rx
 obtain ⟨u, rfl, ru⟩ := rv.one
 obtain ⟨z, its, n, r, hl, e⟩ := I.lstM hH
 refine call_meets F.slot_list_append ⟨_, e, rfl⟩ F.entry_list_append (F.args_list_append_2 _ _) (PySem.list_append l its.toArray n u (by rw [zQ]; lia)) ⟨e, ?_⟩
 refine ⟨.non, _, I.lset (its' := its ++ [u]) hH e (by simp) (r.append (.cons ru .nil)) ?_, rfl, q⟩
 rw [zC, List.length_singleton]
 lia
noncomputable def rPop : V → List V → Hp → VK → Prop := fun x vs H Q => ∃ l xs y, x = .ref l ∧ vs = [] ∧ H l = some (.lst xs) ∧ xs[xs.length - 1]? = some y ∧ Q y (upd H l (.lst xs.dropLast))
theorem XQ : MtM X "list.pop" rPop := by
 intro pins s σ H x vs v us Q I rx rv h
 obtain ⟨l, xs, y, rfl, rfl, hH, hy, q⟩ := h
 cases rx
 have hus := rv.zero
 subst hus
 obtain ⟨z, its, n, r, hl, e⟩ := I.lstM hH
 obtain ⟨u, hu, ru⟩ := r.get hy
 have hy' : its.toArray[its.toArray.size - 1]? = some u := by
  show its.toArray[its.length - 1]? = some u
  rw [← Array.getElem?_toList, ← hl]
  exact hu
 refine call_meets F.slot_list_pop ⟨_, e, rfl⟩ F.entry_list_pop (F.args_list_pop_1 _) (MeetsSeq.list_pop_last l its.toArray n u hy' (by rw [zQ]; lia)) ⟨e, ?_⟩
 refine ⟨y, _, I.lset (its' := its.dropLast) hH e ?_ r.dropLast ?_, ru, q⟩
 ·show its.toArray.eraseIdxIfInBounds (its.toArray.size - 1) = its.dropLast.toArray
  rw [zQ, List.eraseIdxIfInBounds_toArray, R8]
 ·rw [List.length_dropLast]
  lia
noncomputable def rCat : R2 := fun x y H Q => ∃ l b xs zs, x = .ref l ∧ y = .ref b ∧ H l = some (.lst xs) ∧ H b = some (.lst zs) ∧ xs.length + zs.length ≤ sizeLine ∧ ∀ p, H p = none → Q (.ref p) (upd H p (.lst (xs ++ zs)))
theorem aa : OpR X (binaryOp .Add) rCat := by
 intro pins s σ H x y v u Q I rx ry h
 obtain ⟨l, b, xs, zs, rfl, rfl, hH, hB, hz, q⟩ := h
 cases rx
 cases ry
 obtain ⟨z, its, n, r, hl, e⟩ := I.lstM hH
 obtain ⟨z2, its2, n2, r2, hl2, e2⟩ := I.lstM hB
 refine PySem.P.add_list e e2 ?_ (by rw [zQ, zQ]; lia)
 have ea : its.toArray ++ its2.toArray = (its ++ its2).toArray := by simp
 rw [ea]
 exact ⟨.ref _, _, I.lnew (t' := s.toks) (r.append r2) (by rw [zC]; lia), rfl, q _ I.fresh⟩
end
section
variable {prog : Program} {w : World} {A : Around} {E : Value → Shared → Prop} {s : Shared}
set_option maxRecDepth 100000 in
end
section
variable {X : Cx}
end
section
variable {κ : Type} [DecidableEq κ]
noncomputable def B7 (kvs : List (κ × V)) (k : κ) : Option V := (kvs.find? fun kv => decide (kv.1 = k)).map (·.2)
noncomputable def Cp (kvs : List (κ × V)) (k : κ) (v : V) : List (κ × V) :=
 if (kvs.any fun kv => decide (kv.1 = k)) = true then kvs.map (fun kv => if kv.1 = k then (kv.1, v) else kv) else kvs ++ [(k, v)]
noncomputable def DZ (kvs : List (κ × V)) (k : κ) : List (κ × V) := kvs.filter fun kv => decide (kv.1 ≠ k)
theorem Ba {p : κ × V} {r : List (κ × V)} {k : κ} (e : p.1 = k) : B7 (p :: r) k = some p.2 := by simp [B7, List.find?_cons, e]
theorem BL {p : κ × V} {r : List (κ × V)} {k : κ} (e : ¬ p.1 = k) : B7 (p :: r) k = B7 r k := by simp [B7, List.find?_cons, e]
theorem Fh (k : κ) : ∀ kvs : List (κ × V), (kvs.any fun kv => decide (kv.1 = k)) = (B7 kvs k).isSome
 | [] => rfl
 | p :: r => by
  rw [List.any_cons]
  by_cases e : p.1 = k
  ·simp only [Ba e, z8 e, Bool.true_or, Option.isSome_some]
  ·rw [BL e, za e, Bool.false_or]; exact Fh k r
theorem Qo (k j : κ) (y : V) : ∀ kvs : List (κ × V), B7 (kvs.map fun kv => if kv.1 = k then (kv.1, y) else kv) j = (B7 kvs j).map fun x => if j = k then y else x
 | [] => rfl
 | p :: r => by
  have ih := Qo k j y r
  rw [zZ]
  by_cases h : p.1 = k
  ·rw [if_pos h]
   by_cases e : p.1 = j
   ·rw [Ba (p := (p.1, y)) e, Ba e, qM, if_pos (e.symm.trans h)]
   ·rw [BL (p := (p.1, y)) e, BL e, ih]
  ·rw [if_neg h]
   by_cases e : p.1 = j
   ·rw [Ba (p := p) e, Ba e, qM, if_neg (fun z => h (e.trans z))]
   ·rw [BL (p := p) e, BL e, ih]
theorem PY (k j : κ) (y : V) : ∀ kvs : List (κ × V), B7 kvs k = none → B7 (kvs ++ [(k, y)]) j = if j = k then some y else B7 kvs j
 | [], _ => by
  by_cases e : k = j
  ·rw [if_pos e.symm]; exact Ba (p := (k, y)) e
  ·rw [if_neg (fun z => e z.symm)]; exact BL (p := (k, y)) e
 | p :: r, hn => by
  rw [List.cons_append]
  have hk : ¬ p.1 = k := fun z => by rw [Ba z] at hn; cases hn
  rw [BL hk] at hn
  have ih := PY k j y r hn
  by_cases e : p.1 = j
  ·rw [Ba e, Ba e, if_neg (fun z => hk (e.trans z))]
  ·rw [BL e, BL e, ih]
theorem N3 (kvs : List (κ × V)) (k j : κ) (y : V) : B7 (Cp kvs k y) j = if j = k then some y else B7 kvs j := by
 unfold Cp
 by_cases a : (kvs.any fun kv => decide (kv.1 = k)) = true
 ·rw [if_pos a, Qo]
  rw [Fh] at a
  by_cases e : j = k
  ·obtain ⟨x, hx⟩ := Option.isSome_iff_exists.mp a
   rw [if_pos e, e, hx, qM, if_pos rfl]
  ·rw [if_neg e]
   cases B7 kvs j with
   | none => rfl
   | some x => rw [qM, if_neg e]
 ·rw [if_neg a]
  refine PY k j y kvs ?_
  rw [Fh] at a
  cases q : B7 kvs k with
  | none => rfl
  | some x => rw [q] at a; exact (a rfl).elim
theorem Hh (kvs : List (κ × V)) (k : κ) (v : V) : (Cp kvs k v).length ≤ kvs.length + 1 := by
 unfold Cp
 split
 ·rw [z5]; lia
 ·rw [zC, zE, zP]; lia
theorem F2.isSome_eq {o : Option V} {u : Option Value} (r : F2 o u) : o.isSome = u.isSome := by
 cases o with
 | none => cases u with
  | none => rfl
  | some _ => exact (show False from r).elim
 | some _ => cases u with
  | none => exact (show False from r).elim
  | some _ => rfl
theorem F2.getD {o : Option V} {u : Option Value} {d : V} {d' : Value} (r : F2 o u) (rd : RelV d d') : RelV (o.getD d) (u.getD d') := by
 cases o with
 | none => cases u with
  | none => exact rd
  | some _ => exact (show False from r).elim
 | some _ => cases u with
  | none => exact (show False from r).elim
  | some _ => exact r
theorem KV.val {kvs : List (κ × V)} {vs : List (κ × Value)} (r : KV kvs vs) (k : κ) : F2 (B7 kvs k) (valueAt vs k) := by
 unfold KV at r
 induction r with
 | nil => exact True.intro
 | @cons p q ps qs h t ih =>
  obtain ⟨h1, h2⟩ := h
  by_cases e : p.1 = k
  ·have e' : q.1 = k := h1.symm.trans e
   have b : valueAt (q :: qs) k = some q.2 := by simp [valueAt, List.find?_cons, e']
   rw [Ba e, b]; exact h2
  ·have e' : ¬ q.1 = k := fun z => e (h1.trans z)
   have b : valueAt (q :: qs) k = valueAt qs k := by simp [valueAt, List.find?_cons, e']
   rw [BL e, b]; exact ih
theorem KV.any {kvs : List (κ × V)} {vs : List (κ × Value)} (r : KV kvs vs) (k : κ) : (kvs.any fun kv => decide (kv.1 = k)) = vs.any fun kv => decide (kv.1 = k) := by
 unfold KV at r
 induction r with
 | nil => rfl
 | cons h t ih => rw [List.any_cons, List.any_cons, ih, h.1]
theorem KV.repl {kvs : List (κ × V)} {vs : List (κ × Value)} (r : KV kvs vs) (k : κ) {y : V} {u : Value} (ry : RelV y u) :
  KV (kvs.map fun kv => if kv.1 = k then (kv.1, y) else kv) (vs.map fun kv => if kv.1 = k then (kv.1, u) else kv) := by
 unfold KV at r ⊢
 induction r with
 | nil => exact .nil
 | @cons p q ps qs h t ih =>
  rw [zZ, zZ]
  refine .cons ?_ ih
  obtain ⟨h1, h2⟩ := h
  by_cases e : p.1 = k
  ·rw [if_pos e, if_pos (h1.symm.trans e)]; exact ⟨h1, ry⟩
  ·rw [if_neg e, if_neg (fun z => e (h1.trans z))]; exact ⟨h1, h2⟩
theorem KV.put {kvs : List (κ × V)} {vs : List (κ × Value)} (r : KV kvs vs) (k : κ) {y : V} {u : Value} (ry : RelV y u) : KV (Cp kvs k y) (stored vs k u) := by
 unfold Cp stored
 rw [r.any k]
 by_cases e : (vs.any fun kv => decide (kv.1 = k)) = true
 ·rw [if_pos e, if_pos e]; exact r.repl k ry
 ·rw [if_neg e, if_neg e]; exact Paired.snoc r ⟨rfl, ry⟩
theorem KV.drop {kvs : List (κ × V)} {vs : List (κ × Value)} (r : KV kvs vs) (k : κ) : KV (DZ kvs k) (without vs k) := by
 unfold KV at r ⊢
 unfold DZ without
 induction r with
 | nil => exact .nil
 | @cons p q ps qs h t ih =>
  obtain ⟨h1, h2⟩ := h
  rw [zo, zo]
  by_cases e : p.1 = k
  ·have a : ¬ decide (p.1 ≠ k) = true := by simp [e]
   have b : ¬ decide (q.1 ≠ k) = true := by simp [h1.symm.trans e]
   rw [if_neg a, if_neg b]; exact ih
  ·have e' : ¬ q.1 = k := fun z => e (h1.trans z)
   have a : decide (p.1 ≠ k) = true := by simp [e]
   have b : decide (q.1 ≠ k) = true := by simp [e']
   rw [if_pos a, if_pos b]; exact .cons ⟨h1, h2⟩ ih
theorem KV.length {kvs : List (κ × V)} {vs : List (κ × Value)} (r : KV kvs vs) : kvs.length = vs.length := Paired.length r
theorem VU (kvs : List (κ × V)) (k : κ) : (DZ kvs k).length ≤ kvs.length := zw _ _
end
theorem M9 {P : Program} {w : World} {k : Key} {u : Value} (r : RelV (kV k) u) : (A8 P w).is k u = true := by
 cases k with
 | inl i => obtain ⟨t, e⟩ := (show ∃ t, u = Value.int i t from r); subst e; exact RB P w i t
 | inr x => obtain ⟨t, e⟩ := (show ∃ t, u = Value.str x t from r); subst e; exact Qn P w x t
theorem Os {P : Program} {w : World} : ∀ {ks : List Key} {us : List Value}, Al (ks.map kV) us → ItemsAre (A8 P w) ks us
 | [], _, r => by rw [List.map_nil] at r; cases r; exact .nil
 | k :: ks, _, r => by
  rw [zZ] at r
  cases r with
  | cons h t => exact .cons (M9 h) (Os t)
noncomputable abbrev KT (H : Hp) : List (List Key × V) → List (List Key × Addr × Value) → Prop := Paired fun p q => p.1 = q.1 ∧ H q.2.1 = some (.tup (p.1.map kV)) ∧ RelV p.2 q.2.2
theorem KT.val {H : Hp} {kvs : List (List Key × V)} {xs : List (List Key × Addr × Value)} (r : KT H kvs xs) (k : List Key) : F2 (B7 kvs k) ((atKey xs k).map (·.2)) := by
 induction r with
 | nil => exact True.intro
 | @cons p q ps qs h t ih =>
  obtain ⟨h1, _, h2⟩ := h
  by_cases e : p.1 = k
  ·have e' : q.1 = k := h1.symm.trans e
   have b : atKey (q :: qs) k = some q.2 := by simp [atKey, List.find?_cons, e']
   rw [Ba e, b]; exact h2
  ·have e' : ¬ q.1 = k := fun z => e (h1.trans z)
   have b : atKey (q :: qs) k = atKey qs k := by simp [atKey, List.find?_cons, e']
   rw [BL e, b]; exact ih
theorem KT.repl {H : Hp} {kvs : List (List Key × V)} {xs : List (List Key × Addr × Value)} (r : KT H kvs xs) (k : List Key) {y : V} {u : Value} (ry : RelV y u) :
  KT H (kvs.map fun kv => if kv.1 = k then (kv.1, y) else kv) (xs.map (putAt k u)) := by
 induction r with
 | nil => exact .nil
 | @cons p q ps qs h t ih =>
  rw [zZ, zZ]
  refine .cons ?_ ih
  obtain ⟨h1, h2, h3⟩ := h
  unfold putAt
  by_cases e : p.1 = k
  ·rw [if_pos e, if_pos (h1.symm.trans e)]; exact ⟨h1, h2, ry⟩
  ·rw [if_neg e, if_neg (fun z => e (h1.trans z))]; exact ⟨h1, h2, h3⟩
theorem KT.put {H : Hp} {kvs : List (List Key × V)} {xs : List (List Key × Addr × Value)} (r : KT H kvs xs) (k : List Key) {b : Addr} {y : V} {u : Value} (hb : H b = some (.tup (k.map kV))) (ry : RelV y u) :
  KT H (Cp kvs k y) (storedH xs k b u) := by
 have e : (kvs.any fun kv => decide (kv.1 = k)) = (atKey xs k).isSome := by
  rw [Fh, (r.val k).isSome_eq, Option.isSome_map]
 unfold Cp storedH
 rw [e]
 by_cases q : (atKey xs k).isSome = true
 ·rw [if_pos q, if_pos q]; exact r.repl k ry
 ·rw [if_neg q, if_neg q]; exact Paired.snoc r ⟨rfl, hb, ry⟩
theorem KT.keeps {H H' : Hp} {kvs : List (List Key × V)} {xs : List (List Key × Addr × Value)} (r : KT H kvs xs) (ht : ∀ b ys, H b = some (.tup ys) → H' b = some (.tup ys)) : KT H' kvs xs :=
 Paired.mapP r fun _ _ z => ⟨z.1, ht _ _ z.2.1, z.2.2⟩
section
variable {P : Program} {w : World} {H : Hp} {h : Heap} {a : Addr}
theorem XF {u : HO} (ok : HOk P w H h) (e : Rd H a u) : A3 P w H h a u := e.ok ok
theorem L7 {kvs : List (Key × V)} (ok : HOk P w H h) (e : Rd H a (.dK kvs)) : kvs.length ≤ sizeLine ∧ (a == sysModules) = false ∧ ∃ vs, KV kvs vs ∧ h.DictOf (A8 P w) a vs :=
 show A3 P w H h a (.dK kvs) from XF ok e
theorem Pb {kvs : List (Key × V)} (ok : HOk P w H h) (e : H a = some (.dK kvs)) : kvs.length ≤ sizeLine ∧ (a == sysModules) = false ∧ ∃ vs, KV kvs vs ∧ h.DictOf (A8 P w) a vs := L7 ok (.inl e)
theorem LL {ks : List Key} (ok : HOk P w H h) (e : H a = some (.tup (ks.map kV))) : (tupleKind (A8 P w)).is h ks a := by
 obtain ⟨_, its, r, o, h1, h2, n, h3⟩ := (show A3 P w H h a (.tup (ks.map kV)) from ok a _ e)
 exact ⟨o, its.toArray, n, h1, h2, h3, by simpa using Os r⟩
theorem Mm {kvs : List (List Key × V)} (ok : HOk P w H h) (e : Rd H a (.dT kvs)) : kvs.length ≤ sizeLine ∧ (a == sysModules) = false ∧
  ∃ xs, KT H kvs xs ∧ h.DictOfH (tupleKind (A8 P w)) a xs := by
 obtain ⟨z, y, xs, r, o, es, ep, h1, h2, h3, h4, h5⟩ := (show A3 P w H h a (.dT kvs) from XF ok e)
 refine ⟨z, y, xs, r, o, es, ep, h1, h2, h3, h4, fun x hx => ?_, h5⟩
 have all : ∀ {l : List (List Key × V)} {m : List (List Key × Addr × Value)}, KT H l m → ∀ x ∈ m, (tupleKind (A8 P w)).is h x.1 x.2.1 := by
  intro l m q
  induction q with
  | nil => intro x hx; exact nomatch hx
  | @cons p q ps qs hq t ih =>
   intro x hx
   rcases zL.mp hx with e | hx
   ·subst e
    exact LL ok (by rw [← hq.1]; exact hq.2.1)
   ·exact ih x hx
 exact all r x hx
theorem dt_of {kvs : List (List Key × V)} (ok : HOk P w H h) (e : H a = some (.dT kvs)) : kvs.length ≤ sizeLine ∧ (a == sysModules) = false ∧
  ∃ xs, KT H kvs xs ∧ h.DictOfH (tupleKind (A8 P w)) a xs := Mm ok (.inl e)
end
noncomputable def Gk (H : Hp) (a : Addr) (y : V) (r : Option V) : Prop :=
 (∃ kvs k, Rd H a (.dK kvs) ∧ y = kV k ∧ r = B7 kvs k) ∨ ∃ kvs k b, Rd H a (.dT kvs) ∧ y = .ref b ∧ H b = some (.tup (k.map kV)) ∧ r = B7 kvs k
noncomputable def Q0 (H : Hp) (a : Addr) (y v : V) (H' : Hp) : Prop :=
 (∃ kvs k, H a = some (.dK kvs) ∧ y = kV k ∧ kvs.length < sizeLine ∧ H' = upd H a (.dK (Cp kvs k v))) ∨
 ∃ kvs k b, H a = some (.dT kvs) ∧ y = .ref b ∧ H b = some (.tup (k.map kV)) ∧ kvs.length < sizeLine ∧ H' = upd H a (.dT (Cp kvs k v))
theorem Gk.k {H : Hp} {a : Addr} {kvs : List (Key × V)} {k : Key} (e : H a = some (.dK kvs)) : Gk H a (kV k) (B7 kvs k) := .inl ⟨kvs, k, .inl e, rfl, rfl⟩
theorem Q0.k {H : Hp} {a : Addr} {kvs : List (Key × V)} {k : Key} {v : V} (e : H a = some (.dK kvs)) (hl : kvs.length < sizeLine) : Q0 H a (kV k) v (upd H a (.dK (Cp kvs k v))) := .inl ⟨kvs, k, e, rfl, hl, rfl⟩
section
variable {X : Cx} {pins : List (Addr × Obj)} {σ : St} {H : Hp} {s : Shared} {a : Addr} {y v : V} {u r : Value} {o : Option V} {A : Around} {E : Value → Shared → Prop}
theorem Inv.big (I : Inv X pins σ H s) : sysModules < s.heap.objs.size := by
 have h : mainGlobals < s.heap.objs.size := (I.mod.glob.keeps I.bk).lt
 exact Nat.lt_trans (by decide) h
theorem UF {Q : Value → Shared → Prop} (hu : A.units + 1 < cLine) (I : Inv X pins σ H s) (g : Gk H a y (some v)) (ry : RelV y u) (h : ∀ w' s', Inv X pins σ H s' → RelV v w' → Q w' s') :
  wpAny (model X.prog X.w) A (getItem (.ref a) u) Q E s := by
 rcases g with ⟨kvs, k, e, ey, l⟩ | ⟨kvs, k, b, e, ey, eb, l⟩
 ·subst ey
  obtain ⟨z, hd, vs, rel, dd⟩ := L7 I.hok e
  obtain ⟨w', hw, rw'⟩ := F2.some_of (v := v) (o := valueAt vs k) (by rw [l]; exact rel.val k)
  exact wpAny_getItem_of (M9 ry) dd.mapOf hw (h w' _ (I.tok _) rw')
 ·subst ey
  cases (show u = Value.ref b from ry)
  obtain ⟨z, hd, xs, rel, dd⟩ := Mm I.hok e
  obtain ⟨w', hw, rw'⟩ := F2.some_of (v := v) (o := (atKey xs k).map (·.2)) (by rw [l]; exact rel.val k)
  obtain ⟨p, hp, hp2⟩ := ze.mp hw
  refine wpAny_getItem_heap (tupleKind_room_in1 hu) (LL I.hok eb) dd hp ?_
  rw [hp2]
  exact h w' _ (I.tok _) rw'
theorem d_in {Q : Value → Shared → Prop} (hu : A.units + 1 < cLine) (I : Inv X pins σ H s) (g : Gk H a y o) (ry : RelV y u) (h : ∀ s', Inv X pins σ H s' → Q (.bool o.isSome) s') :
  wpAny (model X.prog X.w) A (compareOp .In u (.ref a)) Q E s := by
 rcases g with ⟨kvs, k, e, ey, l⟩ | ⟨kvs, k, b, e, ey, eb, l⟩
 ·subst ey
  obtain ⟨z, hd, vs, rel, dd⟩ := L7 I.hok e
  refine wpAny_in_of (M9 ry) hd dd.mapOf ?_
  rw [← (rel.val k).isSome_eq, ← l]
  exact h _ (I.tok _)
 ·subst ey
  cases (show u = Value.ref b from ry)
  obtain ⟨z, hd, xs, rel, dd⟩ := Mm I.hok e
  refine wpAny_in_heap (tupleKind_room_in1 hu) (LL I.hok eb) hd dd ?_
  have q := (rel.val k).isSome_eq
  rw [Option.isSome_map] at q
  rw [← q, ← l]
  exact h _ (I.tok _)
theorem Wl {Q : Value → Shared → Prop} (hu : A.units + 1 < cLine) (I : Inv X pins σ H s) (g : Gk H a y o) (ry : RelV y u) (h : ∀ s', Inv X pins σ H s' → Q (.bool (!o.isSome)) s') :
  wpAny (model X.prog X.w) A (compareOp .NotIn u (.ref a)) Q E s := by
 rcases g with ⟨kvs, k, e, ey, l⟩ | ⟨kvs, k, b, e, ey, eb, l⟩
 ·subst ey
  obtain ⟨z, hd, vs, rel, dd⟩ := L7 I.hok e
  refine wpAny_notIn_of (M9 ry) hd dd.mapOf ?_
  rw [← (rel.val k).isSome_eq, ← l]
  exact h _ (I.tok _)
 ·subst ey
  cases (show u = Value.ref b from ry)
  obtain ⟨z, hd, xs, rel, dd⟩ := Mm I.hok e
  refine wpAny_notIn_heap (tupleKind_room_in1 hu) (LL I.hok eb) hd dd ?_
  have q := (rel.val k).isSome_eq
  rw [Option.isSome_map] at q
  rw [← q, ← l]
  exact h _ (I.tok _)
theorem Kb {h' : Heap} {t' : Nat} {ob : HO} (I : Inv X pins σ H s) (mu : Mut (H a)) (hs : Heap.SameBut a s.heap h') (he : ∃ q, h'.get? a = some q) (new : A3 X.prog X.w (upd H a ob) h' a ob) :
  Inv X pins σ (upd H a ob) { s with heap := h', toks := t' } :=
 I.write (x := a) (e := a) mu (.inl rfl) (fun b q hb z => (hs.2 b hb).trans z) he new
theorem QC {P : Program} {w : World} {H' : Hp} {h' : Heap} {kvs : List (Key × V)} {vs : List (Key × Value)} (z : kvs.length ≤ sizeLine) (hd : (a == sysModules) = false) (rel : KV kvs vs) (dd : h'.DictOf (A8 P w) a vs) :
  A3 P w H' h' a (.dK kvs) := ⟨z, hd, vs, rel, dd⟩
theorem UP {H' : Hp} {Q : Unit → Shared → Prop} (hu : A.units + 1 < cLine) (I : Inv X pins σ H s) (g : Q0 H a y v H') (ry : RelV y u) (rv : RelV v r) (h : ∀ s', Inv X pins σ H' s' → Q () s') :
  wpAny (model X.prog X.w) A (setItem (.ref a) u r) Q E s := by
 rcases g with ⟨kvs, k, e, ey, l, eH⟩ | ⟨kvs, k, b, e, ey, eb, l, eH⟩
 ·subst ey eH
  obtain ⟨z, hd, vs, rel, dd⟩ := Pb I.hok e
  have hz : vs.length ≤ sizeLine := by rw [← rel.length]; exact z
  have hl : (Cp kvs k v).length ≤ sizeLine := by have := Hh kvs k v; lia
  refine wpAny_setItem_pairs (hsz := hz) (M9 ry) dd fun h' dd' hs => h _ ?_
  have he : ∃ q, h'.get? a = some q := let ⟨q, _, _, hq, _⟩ := dd'; ⟨q, hq⟩
  exact Kb I (by rw [e]; exact True.intro) hs he (QC hl hd (rel.put k rv) dd')
 ·subst ey eH
  cases (show u = Value.ref b from ry)
  obtain ⟨z, hd, xs, rel, dd⟩ := dt_of I.hok e
  have hz : xs.length ≤ sizeLine := by rw [← Paired.length rel]; exact z
  have hl : (Cp kvs k v).length ≤ sizeLine := by have := Hh kvs k v; lia
  refine wpAny_setItem_heap (hsz := hz) (tupleKind_room_in1 hu) (LL I.hok eb) dd fun h' dd' hs => h _ ?_
  obtain ⟨q, es, ep, hq, h2, h3, h4, _, h5⟩ := dd'
  refine Kb I (by rw [e]; exact True.intro) hs ⟨q, hq⟩ ⟨hl, hd, _, (rel.put k eb rv).keeps fun c ys ec => ?_, q, es, ep, hq, h2, h3, h4, h5⟩
  rw [AL (BQ ec e (fun z => nomatch z))]
  exact ec
end
section
variable {X : Cx} {pins : List (Addr × Obj)} {σ : St} {H : Hp} {s : Shared} {a : Addr} {kvs : List (Key × V)} {k : Key} {u : Value} {A : Around} {E : Value → Shared → Prop}
theorem d_pop {v : V} {more : List Value} {Q : Value → Shared → Prop} (I : Inv X pins σ H s) (e : H a = some (.dK kvs)) (ry : RelV (kV k) u) (l : B7 kvs k = some v) (hm : more = [] ∨ ∃ x, more = [x])
  (h : ∀ w' s', Inv X pins σ (upd H a (.dK (DZ kvs k))) s' → RelV v w' → Q w' s') : wpAny (model X.prog X.w) A (call (.builtin "dict.pop") (.ref a :: u :: more)) Q E s := by
 obtain ⟨z, hd, vs, rel, dd⟩ := Pb I.hok e
 obtain ⟨w', hw, rw'⟩ := F2.some_of (v := v) (o := valueAt vs k) (by rw [← l]; exact rel.val k)
 have hp : (keyPart u).isSome = true := by
  cases k with
  | inl i => obtain ⟨t, q⟩ := (show ∃ t, u = Value.int i t from ry); subst q; rfl
  | inr x => obtain ⟨t, q⟩ := (show ∃ t, u = Value.str x t from ry); subst q; rfl
 have ha : argsOk "dict.pop" ⟨.ref a :: u :: more, []⟩ := by
  rcases hm with q | ⟨x, q⟩
  ·subst q; exact PySem.F.args_dict_pop_2 _ _
  ·subst q; exact PySem.F.args_dict_pop_3 _ _ _
 refine call_meetsIn PySem.F.slot_dict_pop dd.typeIs PySem.F.entry_dict_pop ha (meets_dict_pop_there (A8 X.prog X.w) a (M9 ry) more hm hp)
  ⟨vs, w', dd, by rw [← rel.length]; exact z, hw, fun h' dd' hs => h w' _ ?_ rw'⟩
 have he : ∃ q, h'.get? a = some q := let ⟨q, _, _, hq, _⟩ := dd'; ⟨q, hq⟩
 exact Kb I (by rw [e]; exact True.intro) hs he (QC (zT (VU kvs k) z) hd (rel.drop k) dd')
theorem d_len {Q : Value → Shared → Prop} (I : Inv X pins σ H s) (e : Rd H a (.dK kvs)) (h : ∀ t s', Inv X pins σ H s' → Q (.int kvs.length t) s') : wpAny (model X.prog X.w) A (call (.builtin "len") [.ref a]) Q E s := by
 obtain ⟨z, hd, vs, rel, dd⟩ := L7 I.hok e
 refine call_len_dict hd dd (by rw [← rel.length]; rw [sizeLine_eq] at z; lia) ?_
 rw [← rel.length]
 exact h _ _ (I.tok _)
end
noncomputable def NoSl (i : Expr) : Prop := ∀ ov iv, subscripted i false ov iv = operate [ov, iv] (getItem ov iv)
theorem W3 {prog : Program} {w : World} {A : Around} {E : Value → Shared → Prop} {s : Shared} {env : Env} {value slice : Expr} {pos : Pos} {T id : String} {Q : Value → Shared → Prop}
  (hl : typeLookup (.type T) "__getitem__" = pure (some (.builtin id))) (hs : NoSl slice)
  (h : wpAny (model prog w) A (eval value env) (fun o s₁ => wpAny (model prog w) A (eval slice env) (fun i s₂ => s₂.TypeIs o T ∧ wpAny (model prog w) A (getItem o i) Q E s₂) E s₁) E s) :
  wpAny (model prog w) A (eval (.Subscript value slice pos) env) Q E s := by
 refine Subscript_ (wpAny_mono h (fun o s₁ h₁ => wpAny_mono h₁ (fun i s₂ h₂ => ?_) fun _ _ x => x) fun _ _ x => x)
 obtain ⟨hT, h₂⟩ := h₂
 unfold subscriptTail
 refine wpAny_bind ?_
 rw [getitemInPython_of_ne hT.not_modules]
 refine wpAny_bind (wpAny_specialOf hT hl ?_)
 have fin : wpAny (model prog w) A (subscripted slice false o i) (fun r s₃ => wpAny (model prog w) A (letTemporaryGo value o r >>= fun _ => pure r) Q E s₃) E s₂ := by
  rw [hs o i]
  exact wpAny_operating (wpAny_mono h₂ (fun r s₃ h₃ => wpAny_bind (wpAny_letTemporaryGo (wpAny_pure h₃))) fun _ _ x => x)
 first
  | exact wpAny_pure (wpAny_bind fin)
  | exact wpAny_bind (wpAny_pure (wpAny_bind fin))
  | exact wpAny_bind fin
theorem RW {X : Cx} {pins : List (Addr × Obj)} {σ : St} {H : Hp} {s : Shared} {a : Addr} {y : V} {o : Option V} (I : Inv X pins σ H s) (g : Gk H a y o) : s.TypeIs (.ref a) "dict" := by
 rcases g with ⟨kvs, k, e, _, _⟩ | ⟨kvs, k, b, e, _, _, _⟩
 ·obtain ⟨_, _, vs, _, dd⟩ := L7 I.hok e
  exact dd.typeIs
 ·obtain ⟨_, _, xs, _, dd⟩ := Mm I.hok e
  exact dd.typeIs
noncomputable def HP (td ty : TE) : TE := fun σ H Q => td σ H fun x H1 => ty σ H1 fun y H2 => ∃ a v, x = .ref a ∧ Gk H2 a y (some v) ∧ Q v H2
noncomputable def OY (ty td : TE) : TE := fun σ H Q => ty σ H fun y H1 => td σ H1 fun x H2 => ∃ a o, x = .ref a ∧ Gk H2 a y o ∧ Q (.bl o.isSome) H2
noncomputable def C3 (ty td : TE) : TE := fun σ H Q => ty σ H fun y H1 => td σ H1 fun x H2 => ∃ a o, x = .ref a ∧ Gk H2 a y o ∧ Q (.bl (!o.isSome)) H2
noncomputable def Iz (td ty tv : TE) : TS := fun D σ H => tv σ H fun v H1 => td σ H1 fun x H2 => ty σ H2 fun y H3 => ∃ a H4, x = .ref a ∧ Q0 H3 a y v H4 ∧ D.nx σ H4
section
variable {X : Cx} {o i e value : Expr} {pos pos' tpos : Pos} {td ty tv : TE}
theorem TQ (hu : X.A.units + 1 < cLine) (ho : PE X o td) (hi : PE X i ty) (hs : NoSl i) : PE X (.Subscript o i pos) (HP td ty) := by
 intro pins s σ H Q I h
 refine W3 PySem.F.slot_dict_getitem.lookup hs (thn (ho pins s σ H _ I h) fun u s1 ⟨x, H1, I1, rx, q1⟩ => thn (hi pins s1 σ H1 _ I1 q1) fun iv s2 zq => ?_)
 obtain ⟨y, H2, I2, ry, a, v, ex, g, q2⟩ := zq
 subst ex
 obtain rfl : u = Value.ref a := rx
 exact ⟨RW I2 g, UF hu I2 g ry fun w' s3 I3 rw' => ⟨v, H2, I3, rw', q2⟩⟩
theorem Vk (hu : X.A.units + 1 < cLine) (hi : PE X i ty) (ho : PE X o td) : PC X .In i o (OY ty td) := by
 intro pins s σ H Q I h
 refine thn (hi pins s σ H _ I h) fun iv s1 ⟨y, H1, I1, ry, q1⟩ => thn (ho pins s1 σ H1 _ I1 q1) fun u s2 zq => ?_
 obtain ⟨x, H2, I2, rx, a, ov, ex, g, q2⟩ := zq
 subst ex
 obtain rfl : u = Value.ref a := rx
 exact d_in hu I2 g ry fun s3 I3 => ⟨.bl ov.isSome, H2, I3, rfl, q2⟩
theorem UB (hu : X.A.units + 1 < cLine) (hi : PE X i ty) (ho : PE X o td) : PC X .NotIn i o (C3 ty td) := by
 intro pins s σ H Q I h
 refine thn (hi pins s σ H _ I h) fun iv s1 ⟨y, H1, I1, ry, q1⟩ => thn (ho pins s1 σ H1 _ I1 q1) fun u s2 zq => ?_
 obtain ⟨x, H2, I2, rx, a, ov, ex, g, q2⟩ := zq
 subst ex
 obtain rfl : u = Value.ref a := rx
 exact Wl hu I2 g ry fun s3 I3 => ⟨.bl (!ov.isSome), H2, I3, rfl, q2⟩
theorem TB (hu : X.A.units + 1 < cLine) (ho : PE X o td) (hi : PE X i ty) (hv : PE X value tv) (hs : swapsWith value (some (.Subscript o i pos')) pos.line X.env = pure false) :
  PS X (.Assign [.Subscript o i pos'] value pos) (Iz td ty tv) := by
 intro pins s σ H D I h
 refine wpAny_Assign_Subscript (thn (hv pins s σ H _ I h) fun r s1 ⟨v, H1, I1, rv, q1⟩ => thn (ho pins s1 σ H1 _ I1 q1) fun u s2 ⟨x, H2, I2, rx, q2⟩ => thn (hi pins s2 σ H2 _ I2 q2) fun iv s3 zq => ?_) hs
 obtain ⟨y, H3, I3, ry, a, H4, ex, g, q3⟩ := zq
 subst ex
 obtain rfl : u = Value.ref a := rx
 exact UP hu I3 g ry rv fun s4 I4 => ⟨σ, H4, I4, q3⟩
end
theorem V0 {P : Program} {w : World} {H : Hp} (h : Heap) (hb : sysModules < h.objs.size) : A3 P w H (h.push { cls := .type "dict", data := .dict #[] }) h.objs.size (.dK []) :=
 ⟨zi _, beq_eq_false_iff_ne.mpr (Ne.symm (zX hb)), [], .nil, Heap.DictOf.new h⟩
noncomputable def X6 : TE := fun _ H Q => ∀ p, H p = none → Q (.ref p) (upd H p (.dK []))
section
variable {X : Cx} {pos : Pos}
theorem U6 : PE X (.Dict [] [] pos) X6 := fun pins s σ H Q I h =>
 wpAny_Dict_empty ⟨.ref s.heap.objs.size, _, I.laid (a := s.heap.objs.size) (o := .dK []) (t' := s.toks) (fun _ _ q => zB _ q) (zG _) (V0 s.heap I.big), rfl, h _ (I.hok.fresh (zG _))⟩
end
structure M1 (X : Cx) (o : Expr) (m : Str) (apos : Pos) (e : Expr) (cpos : Pos) : Prop where
 base : attributeBase o m X.env (eval o X.env) = eval o X.env
 few : ((backTo cpos (starEach [e] X.env)).all (fun x => !x.1) && (backToKw cpos (keywordEach [] X.env)).all (fun x => x.1.isSome)
  && decide (([e] : List Expr).length + ([] : List Keyword).length + (if ([] : List Keyword).isEmpty then 0 else 1) < 30)) = true
 line : (apos.endLine == cpos.line) = true
 trees : backTo cpos (starEach [e] X.env) = [(false, eval e X.env)]
structure M2 (X : Cx) (o : Expr) (m : Str) (apos : Pos) (e f : Expr) (cpos : Pos) : Prop where
 base : attributeBase o m X.env (eval o X.env) = eval o X.env
 few : ((backTo cpos (starEach [e, f] X.env)).all (fun x => !x.1) && (backToKw cpos (keywordEach [] X.env)).all (fun x => x.1.isSome)
  && decide (([e, f] : List Expr).length + ([] : List Keyword).length + (if ([] : List Keyword).isEmpty then 0 else 1) < 30)) = true
 line : (apos.endLine == cpos.line) = true
 trees : backTo cpos (starEach [e, f] X.env) = [(false, eval e X.env), (false, eval f X.env)]
noncomputable def IsD (H : Hp) (a : Addr) : Prop := (∃ kvs, Rd H a (.dK kvs)) ∨ ∃ kvs, Rd H a (.dT kvs)
theorem VC {X : Cx} {pins : List (Addr × Obj)} {σ : St} {H : Hp} {s : Shared} {a : Addr} (I : Inv X pins σ H s) (d : IsD H a) :
  s.TypeIs (.ref a) "dict" ∧ (∀ b, Value.ref a = .ref b → ∃ ob, s.heap.get? b = some ob ∧ ob.dict = none) ∧ (a == sysModules) = false := by
 rcases d with ⟨kvs, e⟩ | ⟨kvs, e⟩
 ·obtain ⟨_, hd, vs, _, dd⟩ := L7 I.hok e
  refine ⟨dd.typeIs, fun b q => ?_, hd⟩
  cases q
  obtain ⟨ob, _, _, h1, h2, _⟩ := dd
  exact ⟨ob, h1, h2.2.1⟩
 ·obtain ⟨_, hd, xs, _, dd⟩ := Mm I.hok e
  refine ⟨dd.typeIs, fun b q => ?_, hd⟩
  cases q
  obtain ⟨ob, _, _, h1, h2, _⟩ := dd
  exact ⟨ob, h1, h2.2.1⟩
section
variable {X : Cx} {pins : List (Addr × Obj)} {σ : St} {H : Hp} {s : Shared} {a : Addr} {y d : V} {u r : Value} {o : Option V} {A : Around} {E : Value → Shared → Prop}
theorem YD {Q : Value → Shared → Prop} (hu : A.units + 1 < cLine) (I : Inv X pins σ H s) (g : Gk H a y o) (ry : RelV y u) (rd : RelV d r) (h : ∀ w' s', Inv X pins σ H s' → RelV (o.getD d) w' → Q w' s') :
  wpAny (model X.prog X.w) A (call (.builtin "dict.get") [.ref a, u, r]) Q E s := by
 rcases g with ⟨kvs, k, e, ey, l⟩ | ⟨kvs, k, b, e, ey, eb, l⟩
 ·subst ey
  obtain ⟨z, hd, vs, rel, dd⟩ := L7 I.hok e
  refine call_meetsIn PySem.F.slot_dict_get dd.typeIs PySem.F.entry_dict_get (PySem.F.args_dict_get_3 _ _ _) (meets_dict_get_default (A8 X.prog X.w) a (M9 ry) hd r) ⟨_, dd.mapOf, h _ _ (I.tok _) ?_⟩
  rw [l]
  exact (rel.val k).getD rd
 ·subst ey
  cases (show u = Value.ref b from ry)
  obtain ⟨z, hd, xs, rel, dd⟩ := Mm I.hok e
  refine call_meetsIn PySem.F.slot_dict_get dd.typeIs PySem.F.entry_dict_get (PySem.F.args_dict_get_3 _ _ _) (meetsH_dict_get_default (tupleKind (A8 X.prog X.w)) a b hd r) ⟨tupleKind_room_in1 hu, k, xs, LL I.hok eb, dd, h _ _ (I.tok _) ?_⟩
  rw [l]
  exact (rel.val k).getD rd
end
noncomputable def Ek (td ty tx : TE) : TE := fun σ H Q => td σ H fun x H1 => ∃ a, x = .ref a ∧ IsD H1 a ∧ ty σ H1 fun y H2 => tx σ H2 fun z H3 => ∃ o, Gk H3 a y o ∧ Q (o.getD z) H3
noncomputable def Ey (td ty : TE) : TE := fun σ H Q => td σ H fun x H1 => ∃ a, x = .ref a ∧ IsD H1 a ∧ ty σ H1 fun y H2 => ∃ kvs k v, H2 a = some (.dK kvs) ∧ y = kV k ∧ B7 kvs k = some v ∧ Q v (upd H2 a (.dK (DZ kvs k)))
section
variable {X : Cx} {o e f : Expr} {apos cpos : Pos} {td ty tx : TE}
theorem U8 (hu : X.A.units + 1 < cLine) (ho : PE X o td) (he : PE X e ty) (hf : PE X f tx) (m : M2 X o "get" apos e f cpos) : PE X (.Call (.Attribute o "get" apos) [e, f] [] cpos) (Ek td ty tx) := by
 intro pins s σ H Q I h
 refine wpAny_Call_method m.base m.few m.line PySem.F.plainAttrs_dict PySem.F.slot_dict_get PySem.F.type_dict_get (thn (ho pins s σ H _ I h) fun u s1 zq => ?_)
 obtain ⟨x, H1, I1, rx, a, ex, d, q1⟩ := zq
 subst ex
 obtain rfl : u = Value.ref a := rx
 obtain ⟨t1, t2, _⟩ := VC I1 d
 refine ⟨t1, t2, ?_⟩
 rw [m.trees]
 refine Calls.callWith_builtin rfl (Calls.evalArgs_plain (Calls.spliced_cons (thn (he pins s1 σ H1 _ I1 q1) fun iv s2 ⟨y, H2, I2, ry, q2⟩ =>
  Calls.spliced_cons (thn (hf pins s2 σ H2 _ I2 q2) fun fv s3 ⟨z, H3, I3, rz, ov, g, q3⟩ => Calls.spliced_nil ?_))))
 exact YD hu I3 g ry rz fun w' s4 I4 rw' => ⟨_, H3, I4, rw', q3⟩
theorem Ug (ho : PE X o td) (he : PE X e ty) (m : M1 X o "pop" apos e cpos) : PE X (.Call (.Attribute o "pop" apos) [e] [] cpos) (Ey td ty) := by
 intro pins s σ H Q I h
 refine wpAny_Call_method m.base m.few m.line PySem.F.plainAttrs_dict PySem.F.slot_dict_pop PySem.F.type_dict_pop (thn (ho pins s σ H _ I h) fun u s1 zq => ?_)
 obtain ⟨x, H1, I1, rx, a, ex, d, q1⟩ := zq
 subst ex
 obtain rfl : u = Value.ref a := rx
 obtain ⟨t1, t2, _⟩ := VC I1 d
 refine ⟨t1, t2, ?_⟩
 rw [m.trees]
 refine Calls.callWith_builtin rfl (Calls.evalArgs_plain (Calls.spliced_cons (thn (he pins s1 σ H1 _ I1 q1) fun iv s2 ⟨y, H2, I2, ry, kvs, k, v, ea, ey, l, q2⟩ => Calls.spliced_nil ?_)))
 subst ey
 exact d_pop I2 ea ry l (.inl rfl) fun w' s3 I3 rw' => ⟨v, _, I3, rw', q2⟩
end
section
variable {X : Cx} {pins : List (Addr × Obj)} {σ : St} {H : Hp} {s : Shared} {a : Addr} {kvs : List (Key × V)} {A : Around} {E : Value → Shared → Prop}
end
section
variable {X : Cx} {pins : List (Addr × Obj)} {σ : St} {H : Hp} {s : Shared} {a : Addr} {y : V} {u : Value} {A : Around} {E : Value → Shared → Prop}
end
end L2
namespace Att
open PySem PySem.W PySem.Calls PyProof.Rows
theorem ints_of_wellAll {P : Params} {h : Heap} : ∀ (ns : List Int) (vs : List Value), WellAll P h vs (ns.map WData.int) → IntsAre vs ns := by
 intro ns
 induction ns with
 | nil =>
  intro vs w
  rw [List.map_nil] at w
  cases w
  exact .nil
 | cons n ns ih =>
  intro vs w
  rw [zZ] at w
  cases w with
  | cons a b =>
   cases a
   exact .cons _ _ (ih _ b)
theorem script_of {l : OpenLaw} {n : Nat} (hn : l.most = some n) {P : Params} {h : Heap} {args : List WData} {vals : List Value}
  (hpre : l.row.toRowW.claim.pre args = true) (hwl : WellAll P h vals args) :
  ∃ a vs ns, vals = [Value.ref a] ∧ args = [WData.list (ns.map WData.int)] ∧ h.get? a = some { cls := .type "list", data := .seq vs.toArray } ∧ IntsAre vs ns ∧ ns.length ≤ n := by
 have hsh : WShape.hasAll [] args [.list .int] = true := (pre_splitW hpre).1
 have hc : l.pre.holds [] { args := args } = true := (pre_splitW hpre).2
 obtain ⟨d, r, rfl, h1, h2⟩ := hasAllW_cons hsh
 obtain rfl := hasAllW_nil h2
 obtain ⟨xs, rfl, h3⟩ := hasW_list h1
 obtain ⟨ns, rfl⟩ := items_int h3
 have hlen : ns.length ≤ n := by
  unfold OpenLaw.pre at hc
  have h4 : (WTm.not (.lt (.lit (.int (n : Int))) (.len (.arg 0)))).holds [] { args := [.list (ns.map .int)] } = true := by
   have h4 := (holds_andW hc).1
   rw [hn] at h4
   exact h4
  have h5 := condW_of h4 (w_not (w_lt w_lit (w_len_list (w_arg rfl))))
  rw [z5] at h5
  refine Nat.le_of_not_lt fun q => ?_
  have q' : (n : Int) < ((ns.length : Nat) : Int) := by lia
  first
   | (rw [z8 q'] at h5; exact absurd h5 (by decide))
   | (simp at h5; lia)
 cases hwl with
 | cons w1 w2 =>
  cases w2
  cases w1 with
  | list ho hall => exact ⟨_, _, ns, rfl, rfl, ho, ints_of_wellAll ns _ hall, hlen⟩
theorem post_true (l : OpenLaw) (args : List WData) : l.row.toRowW.claim.post args (.bool true) args = true :=
 postW_of (r := l.row.toRowW) (X := (true == true))
  (show WShape.has [] (.bool true) .bool = true by first | rfl | decide | simp [WShape.has, WShape.arms, WShape.armsAll])
  (show (WTm.eq .res (.lit (.bool true))).value [] { args := args, res := some (.bool true), after := args } = some (.bool (true == true)) from w_eq_bool (w_res rfl) w_lit) rfl
theorem attach_call {l : OpenLaw} {n : Nat} {q : Program} {loose : List Str} {XP : (Str → Option Value) → Heap → Prop} {YP : World → Heap → Prop} {d : DefRec}
  (hn : l.most = some n) (hdf : d.params.defaults = [])
  (call : ∀ (w : World) (s₀ s₁ : Shared) (mg mb : Str → Option Value) (fa : Addr) (o : Obj) (pm cd doc : Value) (a : Addr) (vs : List Value) (ns : List Int),
   Ground q loose [] XP w s₀ mg mb s₁.heap → YP w s₁.heap →
   s₁.heap.get? fa = some o → o.data = .func (docDef d.name d.params d.body d.scope pm cd doc) → s₁.heap.CodeRec cd d.name → mg d.name = some (.ref fa) →
   s₁.heap.get? a = some { cls := .type "list", data := .seq vs.toArray } → IntsAre vs ns → ns.length ≤ n → s₁.gens = #[] →
   codeAny (model l.prog w) callerA (.call (.ref fa) ⟨[.ref a], []⟩) (fun r s' => r = .ok (.ret (.bool true)) ∧ OldK s₁.heap s'.heap ∧ s'.os = s₁.os ∧ AllBare s'.gens) s₁) :
  WalkO q loose XP YP l.row.toRowW d [] (fun f vs => PySem.call f vs) := by
 intro w s₀ s₁ mg mb G Y fa o pm cd doc dV kV ho hd hcd hD hmg hg args vals as hpre hlay hrd hwl hlo
 obtain rfl : dV = .none := Dflts.none hD hdf
 obtain rfl : kV = .none := Dflts.noKw hD
 obtain ⟨a, vs, ns, rfl, rfl, hobj, hints, hlen⟩ := script_of hn hpre hwl
 refine enter_call (codeAny_mono (call w s₀ s₁ mg mb fa o pm cd doc a vs ns G Y ho (fd_plain hd) hcd hmg hobj hints hlen hg) fun r s' hq => ?_)
 obtain ⟨rfl, h2, h3, h4⟩ := hq
 exact ⟨.inl ⟨.bool true, .bool true, [], rfl, fun _ => rfl, .bool true, post_true l _, fun _ => ⟨List.Pairwise.nil, fun _ hm => (nomatch hm)⟩⟩, h2, h3, h4⟩
section
variable {prog : Program} {w : World} {A : Around} {E : Value → Shared → Prop} {s : Shared} {K : Frag}
noncomputable def noObjs (h : Heap) : Heap := { h with objs := #[] }
theorem noObjs_get (h : Heap) (b : Addr) : (noObjs h).get? b = none := by
 cases e : (noObjs h).get? b with
 | none => rfl
 | some o => exact absurd (zH e) (Nat.not_lt_zero _)
noncomputable def ledger (h : Heap) (L d : Addr) : List (Addr × Obj) := (List.range h.objs.size).filterMap fun a => if a = L ∨ a = d then none else (h.get? a).map fun o => (a, o)
theorem mem_ledger {h : Heap} {L d a : Addr} {o : Obj} : (a, o) ∈ ledger h L d ↔ a ≠ L ∧ a ≠ d ∧ h.get? a = some o := by
 unfold ledger
 rw [List.mem_filterMap]
 constructor
 ·rintro ⟨b, _, e⟩
  split at e
  ·cases e
  ·rename_i hb
   obtain ⟨o', ho, e'⟩ := ze.mp e
   cases e'
   exact ⟨fun q => hb (.inl q), fun q => hb (.inr q), ho⟩
 ·rintro ⟨n1, n2, ho⟩
  refine ⟨a, List.mem_range.mpr (zH ho), ?_⟩
  rw [if_neg (show ¬ (a = L ∨ a = d) from fun q => q.elim n1 n2), ho] <;> rfl
theorem fr_all {h : Heap} {L : Addr} {m : Str → Option Value} (n : h.Ns L m) : Fr (noObjs h) L h m :=
 ⟨n, fun b o e => (by rw [noObjs_get] at e; cases e), zi _⟩
end
end Att
namespace L2
open PySem PySem.Spec PyProof.Rows
theorem O2 : ∀ {vs : List Value} {ns : List Int}, IntsAre vs ns → Al (ns.map V.int) vs
 | _, _, .nil => .nil
 | _, _, .cons n t h => .cons ⟨t, rfl⟩ (O2 h)
noncomputable def BA (s : Stmt) (j : Nat) : Stmt := match s with
 | .ClassDef _ _ _ body _ _ _ _ _ _ _ => body.getD j (.Pass ⟨0, 0, 0, 0⟩)
 | _ => .Pass ⟨0, 0, 0, 0⟩
noncomputable def Bt (s : Stmt) : Arguments := match s with
 | .FunctionDef _ a _ _ _ _ _ _ _ _ => a
 | _ => { posonlyargs := [], args := [], vararg := none, kwonlyargs := [], kw_defaults := [], kwarg := none, defaults := [] }
noncomputable def BH (s : Stmt) : List Stmt := match s with
 | .FunctionDef _ _ b _ _ _ _ _ _ _ => b
 | _ => []
noncomputable def AG (s : Stmt) : Scope := match s with
 | .FunctionDef _ _ _ _ _ _ sc _ _ _ => sc
 | _ => { kind := .function, names := [], isGenerator := false, isCoroutine := false }
noncomputable abbrev CX0 : CXT := fun _ _ _ _ _ _ => False
noncomputable abbrev E0 : XK := fun _ _ _ => False
theorem AW {X : Cx} : E7 CX0 X E0 := fun _ _ _ _ _ _ _ h => h.elim
structure Fun (K : W.Frag) (x qual : Str) (st : Stmt) (f : Addr) (fd : FuncData) : Prop where
 ex : ∃ (oc : Value) (od : Option Addr) (kV doc pm : Value) (an : Option Addr) (cdv ct : Value) (osl : Array (Option Value)),
  fd = W.fnOf x qual (Bt st) (BH st) (AG st) .none kV doc pm an cdv ct ∧ K.lookup f = some ⟨oc, od, .func fd, osl⟩ ∧ W.codeIn K cdv qual = true
 kp : W.keepIn K (.ref f) = true
section
variable {P : Program} {w : World} {K : W.Frag} {mg : Str → Option Value} {base : Heap}
theorem Fun.ok {x qual : Str} {st : Stmt} {f : Addr} {fd : FuncData} {N ps : List Str} {k : Nat} {sp : Sp} (F : Fun K x qual st f fd) (S : AR N ps (AG st)) (len : ∀ vs H Q E, sp vs H Q E → vs.length = ps.length)
  (hbody : ∀ (cdv : Value) (A : Around) (outer : List Env) (s : Shared) (H : Hp) (vs : List V) (Q : VK) (E : XK), CF k (A.deeper (envOfC qual (AG st) s.heap.objs.size f cdv)) → sp vs H Q E →
   ∃ t, PSs (FM CX0 P w K mg base N qual (AG st) f cdv A outer s H E).nox (BH st) t ∧ t { nx := fun _ H' => Q .non H', rt := Q } (start N vs) H) : Af P w K mg base CX0 (k + 1) f fd ps sp := by
 obtain ⟨oc, od, kV, doc, pm, an, cdv, ct, osl, rfl, lk, hcd⟩ := F.ex
 refine Sq lk hcd S len fun A outer s H vs Q E hr hsp => ?_
 obtain ⟨t, h, q⟩ := hbody cdv A outer s H vs Q E hr hsp
 exact ⟨t, h.nox, q⟩
theorem Fun.binds {x qual : Str} {st : Stmt} {f : Addr} {fd : FuncData} {ps : List Str} (F : Fun K x qual st f fd)
  (h : ∀ (kV doc pm : Value) (an : Option Addr) (cdv ct : Value) (us : List Value), us.length = ps.length → bindArgs (W.fnOf x qual (Bt st) (BH st) (AG st) .none kV doc pm an cdv ct) ⟨us, []⟩ = pure (ps.zip us)) : Binds K fd ps [] := by
 obtain ⟨oc, od, kV, doc, pm, an, cdv, ct, osl, rfl, lk, hcd⟩ := F.ex
 exact .all (h kV doc pm an cdv ct)
theorem LC {x qual : Str} {st : Stmt} {f : Addr} {oc : Value} {od an : Option Addr} {osl : Array (Option Value)} {kV doc pm cdv ct : Value} (l : K.lookup f = some ⟨oc, od, .func (W.fnOf x qual (Bt st) (BH st) (AG st) .none kV doc pm an cdv ct), osl⟩)
  (c : W.codeIn K cdv qual = true) (k : W.keepIn K (.ref f) = true) : Fun K x qual st f (W.fnOf x qual (Bt st) (BH st) (AG st) .none kV doc pm an cdv ct) := ⟨⟨oc, od, kV, doc, pm, an, cdv, ct, osl, rfl, l, c⟩, k⟩
end
theorem Vi {A : Around} {k : Nat} (hr : CF k A) : A.units + 1 < cLine := Nat.lt_of_le_of_lt (Nat.add_le_add_left (by decide : 1 ≤ 64) _) hr.units
section
variable {X : Cx}
theorem pv (i : Nat) {x : Str} {pos : Pos} (hN : X.N[i]? = some x := by rfl) (hv : Vis X.env.scope x := by first | exact Or.inl rfl | exact Or.inr (Or.inl rfl) | exact Or.inr (Or.inr rfl)) (hd : (x == ("__debug__" : Str)) = false := by decide)
  (hcd : (x == ("__classdict__" : Str)) = false := by decide) : PE X (.Name x pos) (MO i) := Zj hN hv hd hcd
end
noncomputable def AI (H H' : Hp) : Prop := ∀ b o, H b = some o → H' b = some o
theorem AI.refl (H : Hp) : AI H H := fun _ _ h => h
theorem AI.trans {H H1 H2 : Hp} (a : AI H H1) (b : AI H1 H2) : AI H H2 := fun c o h => b c o (a c o h)
theorem AI.free {H H' : Hp} (e : AI H H') {l : Addr} (h : H' l = Option.none) : H l = Option.none := by
 cases q : H l with
 | none => rfl
 | some o =>
  rw [e l o q] at h
  cases h
theorem AI.seq {K : W.Frag} {H H' : Hp} {a : Addr} {xs : List V} (e : AI H H') (h : SqL K H a xs) : SqL K H' a xs := by
 rcases h with (h | ⟨o, h⟩) | h
 ·exact .inl (.inl (e _ _ h))
 ·exact .inl (.inr ⟨o, e _ _ h⟩)
 ·exact .inr h
section
variable {X : Cx}
theorem IK : Bl X (.builtin "len") (fun xs H Q => ∃ a kvs, xs = [V.ref a] ∧ H a = some (.dK kvs) ∧ Q (.int kvs.length) H) := by
 intro pins s σ H xs us Q I r h
 obtain ⟨a, kvs, rfl, ha, q⟩ := h
 obtain ⟨u, rfl, ru⟩ := vals1 r
 cases ru
 exact d_len I (.inl ha) fun t s' I' => ⟨.int kvs.length, H, I', ⟨t, rfl⟩, q⟩
end
section
variable {κ : Type} [DecidableEq κ]
theorem Ww {kvs : List (κ × V)} {k : κ} {v : V} (h : B7 kvs k = some v) : k ∈ kvs.map (·.1) := by
 have q : (kvs.any fun kv => decide (kv.1 = k)) = true := by
  rw [Fh, h]
  all_goals rfl
 obtain ⟨p, hp, e⟩ := List.any_eq_true.mp q
 exact zf.mpr ⟨p, hp, z6 e⟩
theorem TY : ∀ {l : List κ} {k : κ}, l.Nodup → ¬ k ∈ l → (l ++ [k]).Nodup
 | [], k, _, _ => by simp
 | a :: r, k, h, hk => by
  obtain ⟨h1, h2⟩ := qL.mp h
  show (a :: (r ++ [k])).Nodup
  refine qL.mpr ⟨fun m => ?_, TY h2 fun m => hk (zL.mpr (Or.inr m))⟩
  rcases zb.mp m with q | q
  ·exact h1 q
  ·exact hk (zL.mpr (Or.inl (zK.mp q).symm))
theorem UI {p : κ × V} {r : List (κ × V)} {k : κ} (e : p.1 = k) : DZ (p :: r) k = DZ r k := by
 unfold DZ
 rw [zo, if_neg (by simp [e])]
theorem T3 {p : κ × V} {r : List (κ × V)} {k : κ} (e : ¬ p.1 = k) : DZ (p :: r) k = p :: DZ r k := by
 unfold DZ
 rw [zo, if_pos (by simp [e])]
end
theorem NT : bootBuiltins "abs" = some (.builtin "abs") := by decide +kernel
theorem Ac : bootBuiltins "len" = some (.builtin "len") := by decide +kernel
theorem Ar : bootBuiltins "isinstance" = some (.builtin "isinstance") := by decide +kernel
theorem Ps : bootBuiltins "max" = some (.builtin "max") := by decide +kernel
theorem Ut : bootBuiltins "min" = some (.builtin "min") := by decide +kernel
theorem Ng : bootBuiltins "int" = some (.type "int") := by decide +kernel
theorem QO : bootBuiltins "bool" = some (.type "bool") := by decide +kernel
theorem N4 : bootBuiltins "tuple" = some (.type "tuple") := by decide +kernel
theorem Df : bootBuiltins "list" = some (.type "list") := by decide +kernel
theorem U5 : bootBuiltins "str" = some (.type "str") := by decide +kernel
noncomputable def Sm (i : Int) : Prop := i.natAbs < 2 ^ 4000
theorem Sm.of {i : Int} {n : Nat} (h : i.natAbs ≤ n) (hn : n < 2 ^ 4000) : Sm i := Nat.lt_of_le_of_lt h hn
theorem Sm.bits {i : Int} (h : Sm i) : Builtin.Int.intBits i ≤ 2 ^ 20 := by
 unfold Builtin.Int.intBits
 split
 ·exact zi _
 ·have hn : i.natAbs < 2 ^ 4000 := h
  have : i.natAbs.log2 < 4000 := by
   rcases Nat.eq_zero_or_pos i.natAbs with h0 | hp
   ·rw [h0]; decide
   ·exact (Nat.log2_lt (zt hp)).mpr hn
  have h20 : (4000 : Nat) ≤ 2 ^ 20 := by decide
  lia
theorem Sm.log {i : Int} (h : Sm i) : i.natAbs.log2 < 9000 := by
 have hn : i.natAbs < 2 ^ 4000 := h
 rcases Nat.eq_zero_or_pos i.natAbs with h0 | hp
 ·rw [h0]; decide
 ·exact Nat.lt_trans ((Nat.log2_lt (zt hp)).mpr hn) (by decide)
section
variable {X : Cx}
theorem C7 : OpR X (binaryOp .Mult) (rI (fun i j => Sm i ∧ Sm j) fun i j => .int (i * j)) := opI fun _ _ _ _ _ _ _ hc q => mul_int q (.of_bits hc.1.bits hc.2.bits)
theorem RP : OpR X (binaryOp .FloorDiv) (rI (fun _ j => j ≠ 0 ∧ Sm j) fun i j => .int (i.fdiv j)) := opI fun _ _ _ _ _ _ _ hc q => floordiv_int hc.1 q (.inl (PyProof.noPylong_of_log2 hc.2.log))
theorem Bf : Bl X (.builtin "isinstance") (fun xs H Q => ∃ x n t b, xs = [x, .ty n] ∧ E1 X.K H x t ∧ W.kitOne X.K t (.type n) = some b ∧ Q (.bl b) H) := by
 intro pins s σ H xs us Q I r h
 obtain ⟨x, n, t, b, rfl, ty, e, q⟩ := h
 obtain ⟨u, w', rfl, r1, r2⟩ := vals2 r
 cases (show w' = Value.type n from r2)
 exact Tb I r1 ty e fun tk => ⟨.bl b, H, I.tok tk, rfl, q⟩
end
structure D (K : W.Frag) (mg : Str → Option Value) (x : Str) (st : Stmt) (ps : List Str) (f : Addr) (fd : FuncData) : Prop where
 F : Fun K x x st f fd
 m : mg x = some (.ref f)
 b : Binds K fd ps []
section
variable {X : Cx} {st : Stmt} {rest : List Stmt} {t u : TS}
theorem DH {t u : TS} {D : Gn} {σ : St} {H : Hp} (h : ∀ M : St → Hp → Prop, (∀ σ' H', u D σ' H' → M σ' H') → t { D with nx := M } σ H) : RY t u D σ H := h _ fun _ _ z => z
noncomputable def tCut (t u : TS) : TS := fun D σ H => ∃ M : St → Hp → Prop, t { D with nx := M } σ H ∧ ∀ σ' H', M σ' H' → u D σ' H'
theorem BB (h1 : PS X st t) (h2 : PSs X rest u) : PSs X (st :: rest) (tCut t u) := by
 intro pins s σ H D I h
 obtain ⟨M, h, hM⟩ := h
 refine wpAny_execs_cons (thn (h1 pins s σ H _ I h) fun f s1 q => ?_)
 cases f with
 | next =>
  obtain ⟨σ', H', I', q⟩ := q
  exact h2 pins s1 σ' H' D I' (hM σ' H' q)
 | ret v => exact q
 | brk => exact q
 | cont => exact q
end
theorem cxK {CX : CXT} {P : Program} {w : World} {K : W.Frag} {mg : Str → Option Value} {base : Heap} {N : List Str} {qual : Str} {scope : Scope} {f : Addr} {cd : Value} {A : Around} {outer : List Env} {s : Shared} {H : Hp} {E : XK} :
 (FM CX P w K mg base N qual scope f cd A outer s H E).K = K := rfl
theorem LF : Int.natAbs 10 = 10 := rfl
theorem Pc : Int.natAbs 2 = 2 := rfl
theorem Aw {H : Hp} {p : PySem.Addr} {o : HO} (hp : H p = none) : AI H (upd H p o) := fun b u e => by
 rw [AL (Ah e hp)]; exact e
theorem AI.tup {K : W.Frag} {H H' : Hp} {a : PySem.Addr} {xs : List V} (e : AI H H') (h : SqT K H a xs) : SqT K H' a xs := by
 rcases h with (h | ⟨o, h⟩) | h
 ·exact .inl (.inl (e _ _ h))
 ·exact .inl (.inr ⟨o, e _ _ h⟩)
 ·exact .inr h
section
variable {X : Cx} {es : List Expr} {t : TA} {pos : Pos}
noncomputable def Ih (t : TA) : TE := fun σ H Q => t σ H fun xs H1 => xs.length ≤ sizeLine ∧ ∀ p H', H1 p = none → AI H1 H' → H' p = some (.tup xs) → Q (.ref p) H'
noncomputable def Ip (t : TA) : TE := fun σ H Q => t σ H fun xs H1 => xs.length ≤ sizeLine ∧ ∀ p H', H1 p = none → AI H1 H' → H' p = some (.lst xs) → Q (.ref p) H'
theorem AZ {x1} (h : PA X es t) : PE X (.Tuple es x1 pos) (Ih t) := by
 intro pins s σ H Q I hq
 refine wpAny_Tuple_spliced (thn (h pos pins s σ H _ I hq) fun us s1 ⟨xs, H1, I1, r, z, q⟩ => ⟨by rw [← r.length]; exact z, ?_⟩)
 have hf : H1 s1.heap.objs.size = none := I1.hok.fresh (zG _)
 refine ⟨.ref s1.heap.objs.size, upd H1 s1.heap.objs.size (.tup xs), I1.laid (t' := s1.toks) (fun b u e => zB _ e) (zG _) ?_, rfl, q _ _ hf (Aw hf) AN⟩
 exact ⟨z, us, r, ⟨_, zY _ rfl, rfl, _, rfl⟩⟩
theorem Ae (h : PA X es t) : PE X (.List es pos) (Ip t) := by
 intro pins s σ H Q I hq
 refine wpAny_List_spliced (thn (h pos pins s σ H _ I hq) fun us s1 ⟨xs, H1, I1, r, z, q⟩ => ⟨by rw [← r.length]; exact z, ?_⟩)
 have hf : H1 s1.heap.objs.size = none := I1.hok.fresh (zG _)
 refine ⟨.ref s1.heap.objs.size, upd H1 s1.heap.objs.size (.lst xs), I1.laid (t' := s1.toks) (fun b u e => zB _ e) (zG _) ?_, rfl, q _ _ hf (Aw hf) AN⟩
 exact ⟨z, us, 0, r, zY _ rfl⟩
end
theorem AI.get {H H' : Hp} (s : AI H H') {b : PySem.Addr} {o : HO} (h : H b = some o) : H' b = some o := s b o h
theorem KL {α : Sort _} {p q : α → Prop} (w : α) (h1 : p w) (h2 : q w) : ∃ x, p x ∧ q x := ⟨w, h1, h2⟩
theorem exOrL {α : Sort _} {p p' q : α → Prop} (w : α) (h1 : p w) (h2 : q w) : ∃ x, (p x ∨ p' x) ∧ q x := ⟨w, .inl h1, h2⟩
theorem exOrR {α : Sort _} {p p' q : α → Prop} (w : α) (h1 : p' w) (h2 : q w) : ∃ x, (p x ∨ p' x) ∧ q x := ⟨w, .inr h1, h2⟩
section
variable {X : Cx}
theorem OpR.weak {f : Value → Value → Sem Value} {r r' : R2} (h : OpR X f r) (m : ∀ x y H Q, r' x y H Q → r x y H Q) : OpR X f r' :=
 fun pins s σ H x y v u Q I rx ry q => h pins s σ H x y v u Q I rx ry (m x y H Q q)
theorem Bl.weak {f : Value} {r r' : List V → Hp → VK → Prop} (h : Bl X f r) (m : ∀ xs H Q, r' xs H Q → r xs H Q) : Bl X f r' :=
 fun pins s σ H xs us Q I rx q => h pins s σ H xs us Q I rx (m xs H Q q)
noncomputable def JE : R2 := fun x y H Q => ∃ l b, x = .ref l ∧ y = .ref b ∧ ∃ xs, H l = some (.lst xs) ∧ ∃ zs, H b = some (.lst zs) ∧ xs.length + zs.length ≤ sizeLine ∧ ∀ p H', H p = none → AI H H' → H' p = some (.lst (xs ++ zs)) → Q (.ref p) H'
theorem QI : OpR X (binaryOp .Add) JE := aa.weak fun _ _ _ _ ⟨l, b, e1, e2, xs, h1, zs, h2, h3, q⟩ => ⟨l, b, xs, zs, e1, e2, h1, h2, h3, fun p hp => q p _ hp (Aw hp) AN⟩
noncomputable def Dm (K : W.Frag) : List V → Hp → VK → Prop := fun xs H Q => ∃ p, xs = [.ref p] ∧ ∃ ys, SqL K H p ys ∧ ∀ l H', H l = none → AI H H' → H' l = some (.tup ys) → Q (.ref l) H'
noncomputable def C6 (K : W.Frag) : List V → Hp → VK → Prop := fun xs H Q => ∃ p, xs = [.ref p] ∧ ∃ ys, (SqL K H p ys ∨ SqT K H p ys) ∧ ∀ l H', H l = none → AI H H' → H' l = some (.lst ys) → Q (.ref l) H'
theorem GC : Bl X (.type "list") (C6 X.K) := Px.weak fun _ _ _ ⟨p, e, ys, h, q⟩ => ⟨p, ys, e, h, fun l hl => q l _ hl (Aw hl) AN⟩
end
noncomputable def Md (i : Int) : Prop := i.natAbs ≤ 10 ^ 60
theorem Md.sm {i : Int} (h : Md i) : Sm i := Sm.of h (by decide +kernel)
theorem Md.mul {i j : Int} (h : Md i) (g : Md j) : (i * j).natAbs ≤ 10 ^ 120 := by
 rw [Int.natAbs_mul]; exact zT (Nat.mul_le_mul h g) (by decide +kernel)
theorem Md.mulS {i j : Int} (h : Md i) (g : Md j) : Sm (i * j) := Sm.of (h.mul g) (by decide +kernel)
theorem Z5 {c A B : Prop} [Decidable c] (hc : ¬ c) (h : B) : if c then A else B := by rw [if_neg hc]; exact h
theorem Yo {c A B : Prop} [Decidable c] (hc : c) (h : A) : if c then A else B := by rw [if_pos hc]; exact h
theorem ZX {H H' : Hp} (h : AI H H') : True := trivial
section
variable {X : Cx}
theorem Pe : Bl X (.type "int") (fun xs H Q => ∃ k, xs = [.bl k] ∧ Q (.int (if k = true then 1 else 0)) H) := Tp.weak fun _ _ _ ⟨k, e, q⟩ => .inr ⟨k, e, by cases k <;> exact q⟩
end
theorem CL {a b : Int} {m n : Nat} (ha : a.natAbs ≤ m) (hb : b.natAbs ≤ n) : (a * b).natAbs ≤ m * n := by
 rw [Int.natAbs_mul]; exact Nat.mul_le_mul ha hb
theorem atL2 {x y e : Int} (h0 : 0 ≤ e) (h1 : e < 2) : ∃ v : Int, atI [V.int x, V.int y] e = some (V.int v) ∧ (v = x ∨ v = y) := by
 rcases (by lia : e = 0 ∨ e = 1) with rfl | rfl
 ·exact ⟨x, rfl, .inl rfl⟩
 ·exact ⟨y, rfl, .inr rfl⟩
theorem atL4 {x y z t e : Int} (h0 : 0 ≤ e) (h1 : e < 4) : ∃ v : Int, atI [V.int x, V.int y, V.int z, V.int t] e = some (V.int v) ∧ (v = x ∨ v = y ∨ v = z ∨ v = t) := by
 rcases (by lia : e = 0 ∨ e = 1 ∨ e = 2 ∨ e = 3) with rfl | rfl | rfl | rfl
 ·exact ⟨x, rfl, .inl rfl⟩
 ·exact ⟨y, rfl, .inr (.inl rfl)⟩
 ·exact ⟨z, rfl, .inr (.inr (.inl rfl))⟩
 ·exact ⟨t, rfl, .inr (.inr (.inr rfl))⟩
theorem Do : HV .non .non = true := rfl
theorem Di {j : Int} : HV .non (.int j) = true := rfl
theorem Dr {i : Int} : HV (.int i) .non = true := rfl
theorem Dj {j : Bool} : HV .non (.bl j) = true := rfl
theorem Dk {i : Bool} : HV (.bl i) .non = true := rfl
theorem Dw {j : PySem.Str} : HV .non (.str j) = true := rfl
theorem Dg {i : PySem.Str} : HV (.str i) .non = true := rfl
theorem DA {i : Int} {j : Int} : HV (.int i) (.int j) = true := rfl
theorem Du {i : Bool} {j : Bool} : HV (.bl i) (.bl j) = true := rfl
theorem C9 {i : PySem.Str} {j : PySem.Str} : HV (.str i) (.str j) = true := rfl
theorem Dh {i : Int} {j : PySem.Str} : HV (.int i) (.str j) = true := rfl
theorem Dv {i : PySem.Str} {j : Int} : HV (.str i) (.int j) = true := rfl
theorem Dq {i : Bool} {j : PySem.Str} : HV (.bl i) (.str j) = true := rfl
theorem Dx {i : PySem.Str} {j : Bool} : HV (.str i) (.bl j) = true := rfl
end L2
set_option maxHeartbeats 4000000
namespace L2
open PySem PySem.Spec PyProof.Rows
section
variable {prog : Program} {w : World} {A : Around} {R : Result → Shared → Prop} {s : Shared}
theorem Qx {elt target iter : Expr} {ifs : List Expr} {scope : Scope} {pos : Pos} {it acc : Value} {env : Env} (I : Nat → Shared → Prop) {N : Value → Shared → Prop} (hN : N = notedBy (model prog w) A env fun e s' => R (.error e) s')
  (turn : ∀ n s, I n s → wpAny (model prog w) A (pyNext it) (fun r s₁ => match r with
   | none => R (.ok .next) s₁
   | some v => wpAny (model prog w) A (letOwnedTupleGo target it v) (fun _ s₁' => wpAny (model prog w) A (assign target env v) (fun _ s₂ =>
     wpAny (model prog w) A (forIn ifs true fun c r => if r = true then do let ok ← isTrue c env (eval c env); pure (ForInStep.yield ok) else pure (ForInStep.yield r)) (fun ok s₃ =>
      if ok = true then wpAny (model prog w) A (eval elt env) (fun x s₄ => wpAny (model prog w) A (call (.builtin "list.append") [acc, x]) (fun _ s₅ => ∃ m, m < n ∧ I m s₅) N s₄) N s₃
      else ∃ m, m < n ∧ I m s₃) N s₂) N s₁') N s₁) N s)
  (n : Nat) (h : I n s) : codeAny (model prog w) A (.compLoop (.ListComp elt [⟨target, iter, ifs, 0⟩] scope pos) 0 it acc env) R s := by
 subst hN
 refine codeAny_loop rfl I (fun n s hI => ?_) n h
 show wpAny _ A ((compTurn (.ListComp elt [⟨target, iter, ifs, 0⟩] scope pos) 0 it acc env).onRaise (fun x => do noteFrame x env; theTreesLotGoes x)) _ _ s
 refine wpAny_noted ?_
 rw [compTurn_list]
 refine wpAny_bind (wpAny_standAt (wpAny_bind (wpAny_mono (turn n s hI) (fun r s₁ h₁ => ?_) fun _ _ h' => h')))
 cases r with
 | none => exact wpAny_pure h₁
 | some v =>
  refine wpAny_bind (wpAny_mono h₁ (fun _ s₁' h₁' => ?_) fun _ _ h' => h')
  refine wpAny_bind (wpAny_mono h₁' (fun _ s₂ h₂ => wpAny_bind (wpAny_mono h₂ (fun ok s₃ h₃ => ?_) fun _ _ h' => h')) fun _ _ h' => h')
  cases ok with
  | false => exact wpAny_pure ⟨rfl, h₃⟩
  | true =>
   exact wpAny_bind (wpAny_bind (wpAny_mono h₃ (fun x s₄ h₄ => wpAny_bind (wpAny_mono h₄ (fun _ s₅ h₅ => wpAny_pure (wpAny_pure ⟨rfl, h₅⟩)) fun _ _ h' => h')) fun _ _ h' => h'))
end
noncomputable def Bq (X : Cx) (sc : Scope) (cl : List (Str × Addr)) (N : List Str) (C : Addr) (s : Shared) (H : Hp) (ex : List Addr) : Cx :=
 { X with N := N, s₀ := s, H₀ := H, env := compEnvC sc cl C X.env, outer := X.stack, stack := X.stack, ex := ex, fn := fun _ => false, pn := [], xe := fun _ _ => False }
noncomputable def Bd (X : Cx) (caps : List Str) : List (Str × Addr) := caps.map fun n => (n, (X.env.cells.lookup n).getD 0)
noncomputable def Ep (σ : St) (ix : List Nat) : St := ix.map fun i => (σ[i]?).join
structure BF (X : Cx) (sc : Scope) (x : Str) (caps : List Str) (ix : List Nat) : Prop where
 kind : sc.kind = .function
 nocell : ∀ y ∈ sc.names, y.2 ≠ .cell
 names : ∀ y ∈ sc.names, y.2 = .local → sc.names.lookup y.1 = some .local
 free : ∀ y ∈ sc.names, y.2 = .free → y.1 ∈ caps
 hx : sc.names.lookup x = some .local
 nd : (x :: caps).Nodup
 clos : closureFor sc X.env = pure (Bd X caps)
 cap : caps.map X.env.kindOf = caps.map fun _ => some NameKind.cell
 rl : (caps.map fun n => (relabel sc X.env).names.lookup n) = caps.map fun _ => some NameKind.cell
 slots : (ix.map fun i => X.N[i]?) = caps.map some
theorem P8 {α β : Type} {f g : α → β} {l : List α} (h : l.map f = l.map g) {a : α} (ha : a ∈ l) : f a = g a := by
 induction l with
 | nil => exact absurd ha (by simp)
 | cons b r ih =>
  rw [zZ, zZ, zy] at h
  rcases zL.mp ha with rfl | ha
  ·exact h.1
  ·exact ih h.2 ha
theorem KC {X : Cx} : ∀ {caps : List Str} {n : Str} {c : Addr}, (Bd X caps).lookup n = some c → n ∈ caps ∧ c = (X.env.cells.lookup n).getD 0
 | [], _, _, h => by simp [Bd] at h
 | a :: r, n, c, h => by
  have h : List.lookup n ((a, (X.env.cells.lookup a).getD 0) :: Bd X r) = some c := h
  rw [List.lookup_cons] at h
  cases e : n == a with
  | true =>
   rw [e] at h
   have e' : n = a := by simpa using e
   subst e'
   exact ⟨zR, (zN h).symm⟩
  | false =>
   rw [e] at h
   obtain ⟨h1, h2⟩ := KC h
   exact ⟨zD _ h1, h2⟩
theorem LU {X : Cx} : ∀ {caps : List Str} {n : Str}, n ∈ caps → ∃ c, (Bd X caps).lookup n = some c
 | [], _, h => absurd h (by simp)
 | a :: r, n, h => by
  show ∃ c, List.lookup n ((a, (X.env.cells.lookup a).getD 0) :: Bd X r) = some c
  rw [List.lookup_cons]
  cases e : n == a with
  | true => exact ⟨_, rfl⟩
  | false =>
   have ne : n ≠ a := by simpa using e
   exact LU ((zL.mp h).resolve_left ne)
section
variable {X : Cx} {pins : List (Addr × Obj)} {σ : St} {H : Hp} {s : Shared} {sc : Scope} {x : Str} {caps : List Str} {ix : List Nat}
theorem BF.cell {n : Str} {c : Addr} (S : BF X sc x caps ix) (ok : X.Ok) (h : (Bd X caps).lookup n = some c) : n ∈ caps ∧ X.env.cells.lookup n = some c := by
 obtain ⟨h1, h2⟩ := KC h
 obtain ⟨c', e⟩ := ok.has n (.inl (P8 S.cap h1))
 refine ⟨h1, ?_⟩
 rw [h2, e]; rfl
theorem BF.isCap (S : BF X sc x caps ix) {y : Str} (h : (relabel sc X.env).names.lookup y = some .cell ∨ (relabel sc X.env).names.lookup y = some .free) : y ∈ caps := by
 have key : ∀ k, (relabel sc X.env).names.lookup y = some k → k = .cell ∨ k = .free → y ∈ caps := fun k hk hk2 => by
  have hm := PySem.mem_of_lookup hk
  obtain ⟨⟨n, k'⟩, hn, e⟩ := zf.mp (show (y, k) ∈ sc.names.map _ from hm)
  dsimp only at e
  split at e
  ·rename_i hc
   have hk' : k' = .free := by
    simp only [Bool.and_eq_true, beq_iff_eq] at hc
    exact hc.1.1
   injection e with e1 e2
   subst e1
   exact S.free _ hn hk'
  ·injection e with e1 e2
   subst e1 e2
   rcases hk2 with rfl | rfl
   ·exact absurd rfl (S.nocell _ hn)
   ·exact S.free _ hn rfl
 rcases h with h | h
 ·exact key _ h (.inl rfl)
 ·exact key _ h (.inr rfl)
theorem BF.ok (S : BF X sc x caps ix) (I : Inv X pins σ H s) {fp : List Addr} {C : Addr} (hC : s.heap.objs.size ≤ C) (hf : ∀ b ∈ fp, ML X pins H b) (hb : ∀ b ∈ fp, b < s.heap.objs.size) :
  (Bq X sc (Bd X caps) (x :: caps) C s H fp).Ok where
 mod := I.ok.mod
 kind := S.kind
 glob := I.ok.glob
 blt := I.ok.blt
 above := hC
 inj := fun y z c h1 h2 => I.ok.inj y z c (S.cell I.ok h1).2 (S.cell I.ok h2).2
 has := fun y hy => LU (S.isCap hy)
 cab := fun _ _ h => absurd h (by intro z; cases z)
 hd := I.ok.hd
 frames := I.ok.frames
 stk := .inl rfl
 exf := fun b hbf => ⟨zX (zF (hb b hbf) hC), fun y c h => (hf b hbf).2.2.2.2.1 y c (S.cell I.ok h).2⟩
 bs := I.bs
 bsz := zT I.ok.bsz I.sz
 noex := fun b o e hbf => by
  rcases (hf b hbf).2.2.2.1 with z | z
  ·exact I.ok.noex b o e z
  ·exact absurd (zF (zH (I.ok.bs b o e).1) z) (zr _)
 exfs := fun b hbf hm => by
  rcases zL.mp (I.stkSub b hm) with z | z
  ·exact (hf b hbf).2.1 z
  ·exact (hf b hbf).2.2.1 z
 funs := I.stack
 frf := I.stkFree
theorem VX (S : BF X sc x caps ix) : (Ep σ ix).length = caps.length := by
 have := congrArg List.length S.slots
 simpa [Ep] using this
theorem TJ : ∀ {ix : List Nat} {caps : List Str} {N : List Str} {k : Nat} {n : Str}, (ix.map fun i => N[i]?) = caps.map some → caps[k]? = some n → ∃ i, ix[k]? = some i ∧ N[i]? = some n
 | [], [], _, _, _, _, h => by simp at h
 | [], _ :: _, _, _, _, h, _ => by simp at h
 | _ :: _, [], _, _, _, h, _ => by simp at h
 | i :: ix, a :: caps, N, 0, n, h, e => by
  rw [zZ, zZ, zy] at h
  simp at e; subst e
  exact ⟨i, rfl, h.1⟩
 | i :: ix, a :: caps, N, k + 1, n, h, e => by
  rw [zZ, zZ, zy] at h
  obtain ⟨j, h1, h2⟩ := TJ (k := k) h.2 (by simpa using e)
  exact ⟨j, by simpa using h1, h2⟩
theorem BF.start (S : BF X sc x caps ix) (I : Inv X pins σ H s) {fp : List Addr} {C D : Addr} {h' : Heap} {m : Str → Option Value} {tk : Nat} (hf : ∀ b ∈ fp, ML X pins H b) (hb : ∀ b ∈ fp, b < s.heap.objs.size)
  (hD : s.heap.objs.size ≤ D) (hC : s.heap.objs.size ≤ C) (hDC : D ≠ C) (k : ∀ b o, s.heap.get? b = some o → h'.get? b = some o) (hd : h'.get? D = some { cls := .type "list", data := .seq #[] 0 }) (hn : h'.Ns C m) :
  Inv (Bq X sc (Bd X caps) (x :: caps) C s H fp) [] (none :: Ep σ ix) (upd H D (.lst [])) { s with heap := h', toks := tk } where
 ok := S.ok I hC hf hb
 os := rfl
 bare := I.bare
 base := Un.laid k hD (I.hok.fresh hD)
 loc := by
  refine ⟨m, hn, fun i y v h1 h2 _ => ?_⟩
  cases i with
  | zero => simp at h2
  | succ i =>
   have h1 : caps[i]? = some y := by simpa [Bq] using h1
   have h2 : (Ep σ ix)[i]? = some (some v) := by simpa using h2
   obtain ⟨j, e1, e2⟩ := TJ S.slots h1
   have h3 : σ[j]? = some (some v) := by
    unfold Ep at h2
    rw [zJ, e1] at h2
    have h2 : (σ[j]?).join = some v := by simpa using h2
    cases q : σ[j]? with
    | none => rw [q] at h2; cases h2
    | some o => rw [q] at h2; cases o with
     | none => cases h2
     | some u => cases h2; rfl
   have hy : y ∈ caps := zU h1
   obtain ⟨m0, hn0, hl0⟩ := I.loc
   obtain ⟨u, r, l⟩ := hl0 j y v e2 h3 (.inr (.inl (P8 S.cap hy)))
   refine ⟨u, r, .inr ⟨.inl (P8 S.rl hy), ?_⟩⟩
   rcases l with ⟨z, _⟩ | ⟨_, c, hc, hcell⟩
   ·have z2 : X.env.kindOf y = some .cell := P8 S.cap hy
    rw [z] at z2; cases z2
   ·obtain ⟨c', hc'⟩ := LU (X := X) hy
    have := (S.cell I.ok hc').2
    rw [hc] at this; cases this
    obtain ⟨o, ho, hdt⟩ := hcell
    exact ⟨c, hc', o, k _ _ ho, hdt⟩
 cell := fun y c h => by
  obtain ⟨v, o, ho, hdt⟩ := I.cell y c (S.cell I.ok h).2
  exact ⟨v, o, k _ _ ho, hdt⟩
 free := by
  show upd H D (.lst []) C = none
  rw [AL (Ne.symm hDC)]; exact I.hok.fresh hC
 freeC := fun y c h => by
  have h2 := (S.cell I.ok h).2
  obtain ⟨v, o, ho, _⟩ := I.cell y c h2
  rw [AL (zX (zF (zH ho) hD))]
  exact I.freeC y c h2
 pin := fun p hp => absurd (show p ∈ ([] : List (Addr × Obj)) from hp) (by simp)
 hok := I.hok.laid k hD ⟨zi _, [], 0, .nil, hd⟩
 len := by
  show (none :: Ep σ ix).length = (x :: caps).length
  rw [zE, zE, VX S]
theorem BF.back (S : BF X sc x caps ix) (I : Inv X pins σ H s) {fp : List Addr} {C : Addr} {ps : List (Addr × Obj)} {σ' : St} {H' : Hp} {s' : Shared} {h'' : Heap} (hf : ∀ b ∈ fp, ML X pins H b) (hC : s.heap.objs.size ≤ C)
  (I' : Inv (Bq X sc (Bd X caps) (x :: caps) C s H fp) ps σ' H' s') (hs : Heap.SameBut C s'.heap h'') : Inv X pins σ H' { s' with heap := h'' } := by
 have J : Inv X pins σ H' s' := I.call' (ch := fp) I'.os I'.base I'.hok I'.bare fun b hb => ⟨(hf b hb).2.2.2.1, (hf b hb).2.1, (hf b hb).2.2.2.2.1, (hf b hb).2.2.2.2.2⟩
 refine J.turned (t' := s'.toks) (it := C) (fun b o hb e => (hs.2 b hb).trans e) I'.free ?_ (.inr (zT I.sz hC)) (fun y c h z => ?_) fun p hp z => ?_
 ·exact zt (zF I.lt hC)
 ·obtain ⟨v, o, ho, _⟩ := I.cell y c h
  exact absurd (zF (zH ho) (z ▸ hC)) (zr _)
 ·obtain ⟨e, _⟩ := I.pin p hp
  exact absurd (zF (zH e) (z ▸ hC)) (zr _)
end
noncomputable def PTs (X : Cx) (ifs : List Expr) (tc : TT) : Prop :=
 ∀ (pins : List (Addr × Obj)) (s : Shared) (σ : St) (H : Hp) (Q : Bool → Hp → Prop), Inv X pins σ H s → tc σ H Q →
  wpAny (model X.prog X.w) X.A (forIn ifs true fun c r => if r = true then do let ok ← isTrue c X.env (eval c X.env); pure (ForInStep.yield ok) else pure (ForInStep.yield r)) (TP X pins σ Q) X.xe s
noncomputable def En : TT := fun _ H Q => Q true H
theorem Fj {X : Cx} : PTs X [] En := fun _ _ _ H _ I h => wpAny_tests_nil ⟨H, I, h⟩
theorem TX {X : Cx} {c : Expr} {t : TT} (h : PT X c t) : PTs X [c] t := fun pins s σ H Q I q => wpAny_tests_one (h pins s σ H Q I q)
noncomputable def FH (te : TE) (tc : TT) (caps : St) (J : It) (D : Addr) (H1 : Hp) (Q : Hp → Prop) : Prop :=
 ∃ W : Nat → Nat → List V → Hp → Prop, (∃ m, W 0 m [] (upd H1 D (.lst []))) ∧ ∀ i m ys H, W i m ys H →
  (J.stop i H ∧ Q H) ∨ (J.go i H ∧ ∀ v H', J.yld i H v H' → tc (some v :: caps) H' fun b H2 =>
   if b = true then te (some v :: caps) H2 fun y H3 => H3 D = some (.lst ys) ∧ ys.length < sizeLine ∧ ∃ m', m' < m ∧ W (i + 1) m' (ys ++ [y]) (upd H3 D (.lst (ys ++ [y])))
   else ∃ m', m' < m ∧ W (i + 1) m' ys H2)
noncomputable def Hm (wi : TI) (te : TE) (tc : TT) (ix : List Nat) : TE := fun σ H Q => wi σ H fun J H1 => ∀ D, H1 D = none → FH te tc (Ep σ ix) J D H1 fun H' => Q (.ref D) H'
theorem DC {M : Model} {A : Around} {α : Type} {t : Sem α} {Q : α → Shared → Prop} {E : Value → Shared → Prop} {s : Shared} (h : wpAny M A t Q (fun _ _ => False) s) : wpAny M A t Q E s := wpAny_mono h (fun _ _ q => q) fun _ _ z => z.elim
section
variable {X : Cx} {pins : List (Addr × Obj)} {σ : St} {H : Hp} {s : Shared} {sc : Scope} {x : Str} {caps : List Str} {ix : List Nat}
theorem Nd {elt iter : Expr} {px pos : Pos} {ifs : List Expr} {te : TE} {tc : TT} {J : It} {fp : List Addr} {it : Addr} {tn : Nat → Heap → Prop} {QH : Addr → Hp → Prop} {RR : Value → Addr → Result → Shared → Prop} {E : Value → Shared → Prop}
  (hc : X.calm = true) (S : BF X sc x caps ix) (he : ∀ C s H ex, PE (Bq X sc (Bd X caps) (x :: caps) C s H ex) elt te) (ht : ∀ C s H ex, PTs (Bq X sc (Bd X caps) (x :: caps) C s H ex) ifs tc)
  (I : Inv X pins σ H s) (T : Tv X.prog X.w X.K (.Name x px) J fp it tn) (st : tn 0 s.heap) (hf : ∀ b ∈ fp, ML X pins H b) (h : ∀ D, H D = none → FH te tc (Ep σ ix) J D H (QH D))
  (hRR : ∀ D C (ps : List (Addr × Obj)) σ' H' s', s.heap.objs.size ≤ C → Inv (Bq X sc (Bd X caps) (x :: caps) C s H fp) ps σ' H' s' → QH D H' → RR (.ref D) C (.ok .next) s') :
  wpAny (model X.prog X.w) X.A (newList []) (fun acc s₃ => wpAny (model X.prog X.w) X.A (newFunctionEnv sc X.env.globals (Bd X caps) [] X.env.qual none .none (some X.env)) (fun cenv s₄ =>
   codeAny (model X.prog X.w) X.A (.compStart (.ListComp elt [⟨.Name x px, iter, ifs, 0⟩] sc pos) 0 (.ref it) acc { cenv with scope := relabel sc X.env }) (RR acc cenv.locals) s₄) E s₃) E s := by
 refine wpAny_newObj_type (wpAny_newFunctionEnv S.nocell (by intro y hy; simp at hy) (fun h₁ hns₁ hsb₁ => ?_) S.kind)
 dsimp only at hns₁ hsb₁ ⊢
 generalize hH2 : s.heap.push { cls := .type "list", dict := none, data := .seq ([] : List Value).toArray } = H2 at hns₁ hsb₁ ⊢
 have hC : H2.objs.size = s.heap.objs.size + 1 := by rw [← hH2, Heap.size_push]
 have hDC : s.heap.objs.size ≠ H2.objs.size := by rw [hC]; exact zX (Nat.lt_succ_self _)
 have hCle : s.heap.objs.size ≤ H2.objs.size := by rw [hC]; exact Nat.le_succ _
 have below : ∀ b, b < s.heap.objs.size → b ≠ H2.objs.size := fun b hb => by rw [hC]; exact zX (Nat.lt_succ_of_lt hb)
 have old : ∀ b o, s.heap.get? b = some o → h₁.get? b = some o := fun b o e => hsb₁.extBut b o (below b (zH e)) (zB _ (hH2 ▸ zB _ e))
 have hacc : h₁.get? s.heap.objs.size = some { cls := .type "list", data := .seq #[] 0 } := hsb₁.extBut _ _ hDC (zB _ (hH2 ▸ zY _ rfl))
 have hb : ∀ b ∈ fp, b < s.heap.objs.size := fun b hbf => by obtain ⟨o, e, _⟩ := T.obj _ _ st b hbf; exact zH e
 have I1 := S.start (tk := s.toks + ([] : List (Str × Value)).length) I hf hb (zG _) hCle hDC old hacc hns₁
 obtain ⟨W, ⟨m0, w0⟩, turn⟩ := h _ (I.hok.fresh (zG _))
 have stat : ∀ {H' : Hp}, (∀ b ∈ fp, H' b = none) → ∀ b ∈ fp, ML (Bq X sc (Bd X caps) (x :: caps) H2.objs.size s H fp) [] H' b := fun {H'} hn b hbf =>
  ⟨hn b hbf, (I1.ok.exf b hbf).1, I1.ok.exfs b hbf, .inl hbf, (I1.ok.exf b hbf).2, fun p hp => absurd (show p ∈ ([] : List (Addr × Obj)) from hp) (by simp)⟩
 have st1 : tn 0 h₁ := T.keep _ _ _ st fun b hbf o e => old b o e
 have fr1 : ∀ b ∈ fp, upd H s.heap.objs.size (.lst []) b = none := fun b hbf => by
  rw [AL (zX (hb b hbf))]; exact (hf b hbf).1
 have loop : ∀ s₃ : Shared, s₃ = { s with heap := h₁, toks := s.toks + ([] : List (Str × Value)).length } →
   codeAny (model X.prog X.w) X.A (.compLoop (.ListComp elt [⟨.Name x px, iter, ifs, 0⟩] sc pos) 0 (.ref it) (.ref s.heap.objs.size) (compEnvC sc (Bd X caps) H2.objs.size X.env))
    (RR (.ref s.heap.objs.size) H2.objs.size) s₃ := by
  rintro s₃ rfl
  refine Qx (fun n s' => ∃ i ys H' ov, Inv (Bq X sc (Bd X caps) (x :: caps) H2.objs.size s H fp) [] (ov :: Ep σ ix) H' s' ∧ tn i s'.heap ∧ (∀ b ∈ fp, H' b = none) ∧ W i n ys H') rfl ?_ m0 ⟨0, [], _, none, I1, st1, fr1, w0⟩
  rintro n s3 ⟨i, ys, H3, ov, I3, st3, fr3, w3⟩
  rcases turn i n ys H3 w3 with ⟨stop, q⟩ | ⟨go, step⟩
  ·refine DC (thn (T.done (Bq X sc (Bd X caps) (x :: caps) H2.objs.size s H fp) rfl rfl rfl hc i [] s3 _ H3 _ I3 (stat fr3) st3 stop) fun r s4 zq => ?_)
   obtain ⟨hr, I4⟩ := zq
   subst hr
   exact hRR _ _ _ _ _ _ hCle I4 q
  ·refine DC (thn (T.item (Bq X sc (Bd X caps) (x :: caps) H2.objs.size s H fp) rfl rfl rfl hc i [] s3 _ H3 _ I3 (stat fr3) st3 go) fun r s4 zq => ?_)
   obtain ⟨u, hr, h4⟩ := zq
   subst hr
   refine DC (thn h4 fun _ s5 zq => ?_)
   obtain ⟨v, H5, I5, r5, y5, st5, fr5⟩ := zq
   have I5' := I5.pinned (stat fr5) (T.obj _ _ st5)
   have hg : PG (Bq X sc (Bd X caps) (x :: caps) H2.objs.size s H fp) (.Name x px) (ET 0) := Sy (i := 0) S.nd rfl (.inl (lookup_relabel_local S.hx)) (.inr (lookup_relabel_local S.hx))
   have again : ∀ {s7 : Shared} {H7 : Hp} {ys' : List V}, Inv (Bq X sc (Bd X caps) (x :: caps) H2.objs.size s H fp) ([] ++ Np fp s5.heap) (some v :: Ep σ ix) H7 s7 → (∃ m', m' < n ∧ W (i + 1) m' ys' H7) →
     ∃ m, m < n ∧ ∃ i ys H' ov, Inv (Bq X sc (Bd X caps) (x :: caps) H2.objs.size s H fp) [] (ov :: Ep σ ix) H' s7 ∧ tn i s7.heap ∧ (∀ b ∈ fp, H' b = none) ∧ W i m ys H' := fun {s7 H7 ys'} I7 ⟨m', hm, w7⟩ => by
    refine ⟨m', hm, i + 1, ys', H7, some v, I7.unpinned, T.keep _ _ _ st5 fun b hb o e => (I7.pin (b, o) (zc _ (zc _ (Fq hb e)))).1, fun b hb => ?_, w7⟩
    obtain ⟨o, e, d⟩ := T.obj _ _ st5 b hb
    exact (I7.pin (b, o) (zc _ (zc _ (Fq hb e)))).2.1
   refine DC (thn (hg _ s5 _ H5 v u (fun σ' H' => σ' = some v :: Ep σ ix ∧ H' = H5) I5' r5 ⟨rfl, rfl⟩) fun _ s6 zq => ?_)
   obtain ⟨σ6, H6, I6, e6, e6'⟩ := zq
   subst e6 e6'
   refine DC (thn (ht _ _ _ _ _ s6 _ H6 _ I6 (step v H6 y5)) fun ok s7 zq => ?_)
   obtain ⟨H7, I7, q7⟩ := zq
   cases ok with
   | false => exact again I7 (by simpa using q7)
   | true =>
    rw [if_pos rfl] at q7
    rw [if_pos rfl]
    refine DC (thn (he _ _ _ _ _ s7 _ H7 _ I7 q7) fun yv s8 zq => ?_)
    obtain ⟨y, H8, I8, r8, hD8, hz8, q8⟩ := zq
    refine DC (thn (Pk _ s8 _ H8 (.ref s.heap.objs.size) [y] _ [yv] (fun _ H9 => H9 = upd H8 s.heap.objs.size (.lst (ys ++ [y]))) I8 rfl (.cons r8 .nil) ⟨_, _, _, rfl, rfl, hD8, hz8, rfl⟩) fun _ s9 zq => ?_)
    obtain ⟨_, H9, I9, _, e9⟩ := zq
    subst e9
    exact again I9 q8
 exact codeAny_compStart_list (loop _ rfl) (T.self _ 0 _ _ _ st1 (loop _ rfl))
theorem turnC (I : Inv X pins σ H s) {C : Addr} (hC : s.heap.objs.size ≤ C) {σ2 : St} {H' : Hp} {s'' : Shared} {h'' : Heap} (J : Inv X pins σ2 H' s'') (hn : H' C = none) (hs : Heap.SameBut C s''.heap h'') : Inv X pins σ2 H' { s'' with heap := h'' } := by
 refine J.turned (t' := s''.toks) (it := C) (fun b o hb e => (hs.2 b hb).trans e) hn ?_ (.inr (zT I.sz hC)) (fun y c h z => ?_) fun p hp z => ?_
 ·exact zt (zF I.lt hC)
 ·obtain ⟨v, o, ho, _⟩ := I.cell y c h
  exact absurd (zF (zH ho) (z ▸ hC)) (zr _)
 ·obtain ⟨e, _⟩ := I.pin p hp
  exact absurd (zF (zH e) (z ▸ hC)) (zr _)
theorem F6 {elt iter : Expr} {px pos : Pos} {ifs : List Expr} {wi : TI} {te : TE} {tc : TT} (hc : X.calm = true) (S : BF X sc x caps ix) (hi : PI X (.Name x px) iter wi)
  (he : ∀ C s H ex, PE (Bq X sc (Bd X caps) (x :: caps) C s H ex) elt te) (ht : ∀ C s H ex, PTs (Bq X sc (Bd X caps) (x :: caps) C s H ex) ifs tc)
  (hs : ∀ x, foldedSetIterable iter X.env x = pure x := by intro _; rfl) : PE X (.ListComp elt [⟨.Name x px, iter, ifs, 0⟩] sc pos) (Hm wi te tc ix) := by
 intro pins s σ H Q I h
 rw [eval_ListComp]
 refine wpAny_comprehension_free (use := none) rfl hs S.clos S.kind S.names (thn (hi pins s σ H _ I h) fun v s1 h1 => thn h1 fun itv s2 h2 => ?_)
 obtain ⟨it, fp, tn, J, H2, e, I2, T, st2, f2, q⟩ := h2
 subst e
 refine Nd (RR := fun acc C => compPost (model X.prog X.w) X.A X.xe none (EP X pins σ Q) acc C) (QH := fun D H' => Q (.ref D) H') hc S he ht I2 T st2 f2 q ?_
 intro D C ps σ' H' s' hC I' hq
 obtain ⟨m, hn, _⟩ := I'.loc
 exact ⟨m, hn, fun h'' hs => ⟨.ref D, H', S.back I2 f2 hC I' hs, rfl, hq⟩⟩
theorem NF {i : Nat} {y : Str} {py spos : Pos} {elt iter : Expr} {px pos : Pos} {ifs : List Expr} {wi : TI} {te : TE} {tc : TT} (hc : X.calm = true) (nd : X.N.Nodup) (hy : X.N[i]? = some y) (hl : Loc X.env.scope y) (S : BF X sc x caps ix) (hi : PI X (.Name x px) iter wi)
  (he : ∀ C s H ex, PE (Bq X sc (Bd X caps) (x :: caps) C s H ex) elt te) (ht : ∀ C s H ex, PTs (Bq X sc (Bd X caps) (x :: caps) C s H ex) ifs tc)
  (hsw : swapsWith (.ListComp elt [⟨.Name x px, iter, ifs, 0⟩] sc pos) (some (.Name y py)) spos.line X.env = pure true := by rfl)
  (hs : ∀ x, foldedSetIterable iter X.env x = pure x := by intro _; rfl) (hf : X.fn y = true ∨ X.env.scope.names.lookup y = some .local := by first | exact .inl rfl | exact .inr rfl | assumption) :
  PS X (.Assign [.Name y py] (.ListComp elt [⟨.Name x px, iter, ifs, 0⟩] sc pos) spos) (OX (Hm wi te tc ix) (ET i)) := by
 intro pins s σ H D I h
 rw [exec_Assign_Name_used _ _ _ _ hsw]
 refine wpAny_bind (wpAny_standAt (wpAny_bind ?_))
 show wpAny _ X.A (do let _ ← comprehension (.ListComp elt [⟨.Name x px, iter, ifs, 0⟩] sc pos) sc X.env _ (newList []) false (eval iter X.env) (some (assign (.Name y py) X.env))) _ _ s
 refine wpAny_bind (wpAny_mono (wpAny_comprehension_free (use := some (assign (.Name y py) X.env)) (Q := fun _ s' => SP X pins D .next s') rfl hs S.clos S.kind S.names
  (thn (hi pins s σ H _ I h) fun v s1 h1 => thn h1 fun itv s2 h2 => ?_)) (fun _ s' hq => wpAny_pure (wpAny_pure hq)) fun _ _ e => e)
 obtain ⟨it, fp, tn, J, H2, e, I2, T, st2, f2, q⟩ := h2
 subst e
 refine Nd (RR := fun acc C => compPost (model X.prog X.w) X.A X.xe (some (assign (.Name y py) X.env)) (fun _ s' => SP X pins D .next s') acc C) (QH := fun L H' => D.nx (σ.set i (some (.ref L))) H') hc S he ht I2 T st2 f2 q ?_
 intro L C ps σ' H' s' hC I' hq
 show wpAny _ X.A (assign (.Name y py) X.env (.ref L)) _ _ s'
 have J := S.back I2 f2 hC I' (Heap.SameBut.refl ..)
 refine wpAny_assign_Name (O7 (v := .ref L) (u := .ref L) J nd hy hl rfl (fun s'' I'' ⟨a, hsb, ha⟩ => ?_) hf)
 obtain ⟨m, hn, _⟩ := I'.loc
 have haC : C ≠ a := by
  rcases ha with z | z
  ·rw [z]; exact zt (zF I2.lt hC)
  ·obtain ⟨v, o, ho, _⟩ := I2.cell y a z
   exact zt (zF (zH ho) hC)
 exact ⟨m, hn.sameBut hsb haC, fun h'' hs'' => ⟨_, H', turnC I2 hC I'' I'.free hs'', hq⟩⟩
end
noncomputable def Nu (n i : Nat) (ys : List V) (D : Addr) (Pv : Nat → List V → Hp → Prop) (y : V) (H3 : Hp) : Prop :=
 H3 D = some (.lst ys) ∧ ys.length < sizeLine ∧ ∃ m', m' < n - i ∧ m' = n - (i + 1) ∧ i + 1 ≤ n ∧ (ys ++ [y]).length = i + 1 ∧ Pv (i + 1) (ys ++ [y]) (upd H3 D (.lst (ys ++ [y])))
theorem Nu.of {n i : Nat} {ys : List V} {D : Addr} {Pv : Nat → List V → Hp → Prop} {y : V} {H3 : Hp} (hn : n ≤ sizeLine) (hi : i < n) (hl : ys.length = i) (h1 : H3 D = some (.lst ys)) (h2 : Pv (i + 1) (ys ++ [y]) (upd H3 D (.lst (ys ++ [y])))) : Nu n i ys D Pv y H3 :=
 ⟨h1, by lia, _, by lia, rfl, hi, by rw [zC, hl]; rfl, h2⟩
theorem Sc {te : TE} {caps : St} {lo : Int} {n : Nat} {D : Addr} {H1 : Hp} {Q : Hp → Prop} (Pv : Nat → List V → Hp → Prop) (h0 : Pv 0 [] (upd H1 D (.lst [])))
  (hs : ∀ i ys H, i < n → ys.length = i → Pv i ys H → te (some (.int (lo + i)) :: caps) H (Nu n i ys D Pv))
  (hd : ∀ ys H, ys.length = n → Pv n ys H → Q H) : FH te En caps (Itr lo n) D H1 Q := by
 refine ⟨fun i m ys H => m = n - i ∧ i ≤ n ∧ ys.length = i ∧ Pv i ys H, ⟨n, rfl, zi _, rfl, h0⟩, ?_⟩
 rintro i m ys H ⟨rfl, hi, hl, p⟩
 by_cases hlt : i < n
 ·refine .inr ⟨hlt, fun v H' y => ?_⟩
  obtain ⟨e1, e2⟩ := y
  subst e1 e2
  unfold En
  dsimp only
  rw [if_pos rfl]
  exact hs i ys _ hlt hl p
 ·have e : i = n := by lia
  subst e
  exact .inl ⟨zG _, hd ys H hl p⟩
theorem Ot {K : W.Frag} {a : Addr} {xs : List V} {te : TE} {caps : St} {D : Addr} {H1 : Hp} {Q : Hp → Prop} (Pv : Nat → List V → Hp → Prop) (h0 : Pv 0 [] (upd H1 D (.lst []))) (hl : ∀ i ys H, i ≤ xs.length → Pv i ys H → SqL K H a xs)
  (hs : ∀ i x ys H, xs[i]? = some x → ys.length = i → Pv i ys H → te (some x :: caps) H (Nu xs.length i ys D Pv))
  (hd : ∀ ys H, ys.length = xs.length → Pv xs.length ys H → Q H) : FH te En caps (Itl K a) D H1 Q := by
 refine ⟨fun i m ys H => m = xs.length - i ∧ i ≤ xs.length ∧ ys.length = i ∧ Pv i ys H, ⟨xs.length, rfl, zi _, rfl, h0⟩, ?_⟩
 rintro i m ys H ⟨rfl, hi, hy, p⟩
 have q := hl i ys H hi p
 by_cases hlt : i < xs.length
 ·refine .inr ⟨⟨xs, xs[i], q, by simp [hlt]⟩, fun v H' y => ?_⟩
  obtain ⟨e, y⟩ := y
  subst e
  unfold En
  dsimp only
  rw [if_pos rfl]
  exact hs i v ys _ (y xs q) hy p
 ·have e : i = xs.length := by lia
  subst e
  exact .inl ⟨⟨xs, q, by simp⟩, hd ys H hy p⟩
theorem Ca {K : W.Frag} {a : Addr} {xs : List V} {te : TE} {tc : TT} {caps : St} {D : Addr} {H1 : Hp} {Q : Hp → Prop} (Pv : Nat → List V → Hp → Prop) (h0 : Pv 0 [] (upd H1 D (.lst []))) (hl : ∀ i ys H, i ≤ xs.length → Pv i ys H → SqL K H a xs)
  (hs : ∀ i x ys H, xs[i]? = some x → Pv i ys H → tc (some x :: caps) H fun b H2 =>
   if b = true then te (some x :: caps) H2 fun y H3 => H3 D = some (.lst ys) ∧ ys.length < sizeLine ∧ ∃ m', m' < xs.length - i ∧ m' = xs.length - (i + 1) ∧ i + 1 ≤ xs.length ∧ Pv (i + 1) (ys ++ [y]) (upd H3 D (.lst (ys ++ [y])))
   else ∃ m', m' < xs.length - i ∧ m' = xs.length - (i + 1) ∧ i + 1 ≤ xs.length ∧ Pv (i + 1) ys H2)
  (hd : ∀ ys H, Pv xs.length ys H → Q H) : FH te tc caps (Itl K a) D H1 Q := by
 refine ⟨fun i m ys H => m = xs.length - i ∧ i ≤ xs.length ∧ Pv i ys H, ⟨xs.length, rfl, zi _, h0⟩, ?_⟩
 rintro i m ys H ⟨rfl, hi, p⟩
 have q := hl i ys H hi p
 by_cases hlt : i < xs.length
 ·refine .inr ⟨⟨xs, xs[i], q, by simp [hlt]⟩, fun v H' y => ?_⟩
  obtain ⟨e, y⟩ := y
  subst e
  exact hs i v ys _ (y xs q) p
 ·have e : i = xs.length := by lia
  subst e
  exact .inl ⟨⟨xs, q, by simp⟩, hd ys H p⟩
theorem AI.updFresh {H H3 : Hp} {D : Addr} {o : HO} (s : AI H H3) (hD : H D = none) : AI H (L2.upd H3 D o) := fun b u e => by
 rw [AL (Ah e hD)]; exact s b u e
theorem Mt {te : TE} {caps : St} {lo : Int} {n : Nat} {D : Addr} {H1 : Hp} {Q : Hp → Prop} (hz : n ≤ sizeLine) (hD : H1 D = none) (f : Nat → V)
  (hs : ∀ i H (R : VK), i < n → AI H1 H → R (f i) H → te (some (.int (lo + i)) :: caps) H R)
  (hd : ∀ H, AI H1 H → H D = some (.lst ((List.range n).map f)) → Q H) : FH te En caps (Itr lo n) D H1 Q := by
 refine Sc (fun i ys H => AI H1 H ∧ H D = some (.lst ys) ∧ ys = (List.range i).map f) ⟨Aw hD, AN, rfl⟩ ?_ ?_
 ·rintro i ys H hi hl ⟨s1, e1, e2⟩
  refine hs i H _ hi s1 (Nu.of hz hi hl e1 ⟨s1.updFresh hD, AN, ?_⟩)
  rw [List.range_succ, zW, e2]; rfl
 ·rintro ys H hl ⟨s1, e1, e2⟩
  subst e2
  exact hd H s1 e1
open PySem.W
noncomputable def KOk (n : Nat) (lt : Nat → Nat → Bool) {α : Type} : KasT α → (α → Prop) → Prop
 | .ret a, Q => Q a
 | .ask i j k, Q => i < n ∧ j < n ∧ KOk n lt (k (lt i j)) Q
theorem KOk.bind {n : Nat} {lt : Nat → Nat → Bool} {α β : Type} {f : α → KasT β} {Q : β → Prop} : ∀ {t : KasT α}, KOk n lt t (fun a => KOk n lt (f a) Q) → KOk n lt (t.bind f) Q
 | .ret _, h => h
 | .ask _ _ k, h => ⟨h.1, h.2.1, KOk.bind (t := k _) h.2.2⟩
theorem KOk.mono {n : Nat} {lt : Nat → Nat → Bool} {α : Type} {Q Q' : α → Prop} (hq : ∀ a, Q a → Q' a) : ∀ {t : KasT α}, KOk n lt t Q → KOk n lt t Q'
 | .ret _, h => hq _ h
 | .ask _ _ k, h => ⟨h.1, h.2.1, KOk.mono hq (t := k _) h.2.2⟩
theorem KOk.wp {n : Nat} {lt : Nat → Nat → Bool} {α : Type} {cmp : Nat → Nat → (Bool → Shared → Prop) → Shared → Prop} {Q : α → Shared → Prop} {s : Shared} (hc : ∀ i j C, i < n → j < n → C (lt i j) s → cmp i j C s) : ∀ {t : KasT α}, KOk n lt t (fun a => Q a s) → t.kasWp cmp Q s
 | .ret _, h => h
 | .ask i j k, h => hc i j _ h.1 h.2.1 (KOk.wp hc (t := k _) h.2.2)
structure STO (n : Nat) (lt : Nat → Nat → Bool) : Prop where
 tri : ∀ i j, i < n → j < n → i ≠ j → lt i j = true ∨ lt j i = true
 asym : ∀ i j, lt i j = true → lt j i = false
 trans : ∀ i j k, lt i j = true → lt j k = true → lt i k = true
section
variable {n : Nat} {lt : Nat → Nat → Bool} {p : Array Nat}
noncomputable def at0 (p : Array Nat) (i : Nat) : Nat := p.getD i 0
structure PR (n : Nat) (p : Array Nat) : Prop where
 pm : p.Perm (List.range n).toArray
theorem PR.size (h : PR n p) : p.size = n := by simpa using h.pm.size_eq
theorem PR.bd (h : PR n p) {i : Nat} (hi : i < n) : at0 p i < n := by
 have hs := h.size
 have hm : p[i]'(by lia) ∈ p := Array.getElem_mem _
 have := (h.pm.mem_iff).mp hm
 have e : at0 p i = p[i]'(by lia) := by unfold at0; rw [zd, Array.getElem?_eq_getElem (by lia)]; rfl
 rw [e]
 simpa using this
theorem PR.inj (h : PR n p) {i j : Nat} (hi : i < n) (hj : j < n) (e : at0 p i = at0 p j) : i = j := by
 have hs := h.size
 have hnd : p.toList.Nodup := by
  have hp : p.toList.Perm (List.range n) := by simpa using Array.perm_iff_toList_perm.mp h.pm
  exact hp.nodup_iff.mpr List.nodup_range
 have ei : at0 p i = p.toList[i]'(by simpa using (by lia : i < p.size)) := by unfold at0; rw [zd, Array.getElem?_eq_getElem (by lia)]; simp
 have ej : at0 p j = p.toList[j]'(by simpa using (by lia : j < p.size)) := by unfold at0; rw [zd, Array.getElem?_eq_getElem (by lia)]; simp
 rw [ei, ej] at e
 exact (List.getElem_inj hnd).mp e
noncomputable def Srt (lt : Nat → Nat → Bool) (p : Array Nat) (k : Nat) : Prop := ∀ i, i + 1 < k → lt (at0 p i) (at0 p (i + 1)) = true
noncomputable def Dsc (lt : Nat → Nat → Bool) (p : Array Nat) (k : Nat) : Prop := ∀ i, i + 1 < k → lt (at0 p (i + 1)) (at0 p i) = true
theorem Srt.all (S : STO n lt) {k : Nat} (h : Srt lt p k) : ∀ {i j : Nat}, i < j → j < k → lt (at0 p i) (at0 p j) = true := by
 intro i j hij hj
 induction j with
 | zero => lia
 | succ j ih =>
  by_cases e : i = j
  ·subst e; exact h i hj
  ·exact S.trans _ _ _ (ih (by lia) (by lia)) (h j hj)
theorem R4 (S : STO n lt) (hp : PR n p) : ∀ (f a : Nat), 1 ≤ a → a + f ≤ n → Srt lt p a → KOk n lt (kas_asc p f a) (fun m => a ≤ m ∧ m ≤ a + f ∧ Srt lt p m ∧ (m < a + f → lt (at0 p m) (at0 p (m - 1)) = true))
 | 0, a, h1, h2, hs => ⟨zG _, zG _, hs, fun h => by lia⟩
 | f + 1, a, h1, h2, hs => by
  refine ⟨hp.bd (i := a) (by lia), hp.bd (i := a - 1) (by lia), ?_⟩
  cases c : lt (p.getD a 0) (p.getD (a - 1) 0) with
  | true => exact ⟨zG _, by lia, hs, fun _ => c⟩
  | false =>
   have hs' : Srt lt p (a + 1) := fun i hi => by
    by_cases e : i + 1 = a
    ·have e' : i = a - 1 := by lia
     subst e'
     rcases S.tri (at0 p (a - 1)) (at0 p a) (hp.bd (by lia)) (hp.bd (by lia)) (fun z => by have := hp.inj (by lia) (by lia) z; lia) with z | z
     ·rw [show a - 1 + 1 = a by lia]; exact z
     ·have z' : lt (p.getD a 0) (p.getD (a - 1) 0) = true := z
      rw [c] at z'; cases z'
    ·exact hs i (by lia)
   refine KOk.mono (fun m hm => ?_) (R4 S hp f (a + 1) (by lia) (by lia) hs')
   exact ⟨by lia, by lia, hm.2.2.1, fun h => hm.2.2.2 (by lia)⟩
theorem S3 (S : STO n lt) (hp : PR n p) : ∀ (f a : Nat), 1 ≤ a → a + f ≤ n → Dsc lt p a → KOk n lt (kas_desc f p a 0) (fun r => r.1 = p ∧ r.2.2 = 0 ∧ a ≤ r.2.1 ∧ r.2.1 ≤ a + f ∧ Dsc lt p r.2.1)
 | 0, a, h1, h2, hs => ⟨rfl, rfl, zG _, zG _, hs⟩
 | f + 1, a, h1, h2, hs => by
  refine ⟨hp.bd (i := a) (by lia), hp.bd (i := a - 1) (by lia), ?_⟩
  cases c : lt (p.getD a 0) (p.getD (a - 1) 0) with
  | true =>
   dsimp only
   rw [if_pos rfl, if_neg (by lia)]
   have hs' : Dsc lt p (a + 1) := fun i hi => by
    by_cases e : i + 1 = a
    ·have e' : i = a - 1 := by lia
     subst e'
     rw [show a - 1 + 1 = a by lia]; exact c
    ·exact hs i (by lia)
   refine KOk.mono (fun m hm => ?_) (S3 S hp f (a + 1) (by lia) (by lia) hs')
   exact ⟨hm.1, hm.2.1, by lia, by lia, hm.2.2.2.2⟩
  | false =>
   dsimp only
   rw [if_neg (by simp)]
   refine ⟨hp.bd (i := a - 1) (by lia), hp.bd (i := a) (by lia), ?_⟩
   have d : lt (p.getD (a - 1) 0) (p.getD a 0) = true := by
    rcases S.tri (at0 p (a - 1)) (at0 p a) (hp.bd (by lia)) (hp.bd (by lia)) (fun z => by have := hp.inj (by lia) (by lia) z; lia) with z | z
    ·exact z
    ·have z' : lt (p.getD a 0) (p.getD (a - 1) 0) = true := z
     rw [c] at z'; cases z'
   rw [d]
   dsimp only
   rw [if_pos rfl]
   exact ⟨rfl, rfl, zG _, Nat.le_add_right _ _, hs⟩
theorem Uq (hp : PR n p) {m k : Nat} (hm : m ≤ n) (hk : k < m) : at0 (kas_rev p 0 m) k = at0 p (m - 1 - k) := by
 have hs := hp.size
 unfold at0 kas_rev
 rw [zd, zd, getElem?_mirror_all (by lia), if_pos ⟨by lia, hk⟩]
 rw [show 0 + m - 1 - k = m - 1 - k by lia]
theorem Yx (S : STO n lt) (hp : PR n p) {m : Nat} (hm : m ≤ n) (h : Dsc lt p m) : PR n (kas_rev p 0 m) ∧ Srt lt (kas_rev p 0 m) m := by
 refine ⟨⟨(mirror_perm ..).trans hp.pm⟩, fun i hi => ?_⟩
 rw [Uq hp hm (by lia), Uq hp hm (by lia)]
 have := h (m - 1 - (i + 1)) (by lia)
 rw [show m - 1 - (i + 1) + 1 = m - 1 - i by lia] at this
 exact this
theorem Vs (S : STO n lt) (hp : PR n p) {m : Nat} (h1 : 1 ≤ m) (hm : m ≤ n) (h : Dsc lt p m) : KOk n lt (kas_tail3 m n p) (fun r => PR n r.2 ∧ r.1 ≤ n ∧ 1 ≤ r.1 ∧ Srt lt r.2 r.1) := by
 obtain ⟨hp', hs⟩ := Yx S hp hm h
 refine KOk.bind (KOk.mono (fun k hk => ?_) (R4 S hp' (n - m) m h1 (by lia) hs))
 exact ⟨hp', by lia, by lia, hk.2.2.1⟩
theorem Qa (S : STO n lt) (hp : PR n p) (h2 : 2 ≤ n) (h : lt (at0 p 1) (at0 p 0) = true) : KOk n lt (kas_descPart 1 n p) (fun r => PR n r.2 ∧ r.1 ≤ n ∧ 1 ≤ r.1 ∧ Srt lt r.2 r.1) := by
 have hs : Dsc lt p 2 := fun i hi => by
  have e : i = 0 := by lia
  subst e; exact h
 refine KOk.bind (KOk.mono (fun r hr => ?_) (S3 S hp (n - (1 + 1)) (1 + 1) (by lia) (by lia) hs))
 obtain ⟨e1, e2, h3, h4, h5⟩ := hr
 rw [e2, if_neg (by lia), e1]
 exact Vs S hp (by lia) (by lia) h5
theorem Ul (S : STO n lt) (hp : PR n p) (h2 : 2 ≤ n) : KOk n lt (kas_count n p) (fun r => PR n r.2 ∧ r.1 ≤ n ∧ 1 ≤ r.1 ∧ Srt lt r.2 r.1) := by
 refine KOk.bind (KOk.mono (fun m hm => ?_) (R4 S hp (n - 1) 1 (zG _) (by lia) (fun i hi => by lia)))
 obtain ⟨m1, m2, hs, hstop⟩ := hm
 by_cases e : m = n
 ·rw [if_pos (by simp [e])]
  exact ⟨hp, by lia, m1, hs⟩
 ·rw [if_neg (by simp [e])]
  by_cases e1 : m > 1
  ·rw [if_pos e1]
   refine ⟨hp.bd (i := 0) (by lia), hp.bd (i := m - 1) (by lia), ?_⟩
   have c : lt (p.getD 0 0) (p.getD (m - 1) 0) = true := Srt.all S hs (i := 0) (j := m - 1) (by lia) (by lia)
   rw [c]
   dsimp only
   rw [if_pos rfl]
   exact ⟨hp, by lia, m1, hs⟩
  ·rw [if_neg e1]
   have e2 : m = 1 := by lia
   subst e2
   exact Qa S hp h2 (hstop (by lia))
theorem Nz (S : STO n lt) (hp : PR n p) {k : Nat} (hk : k < n) (hs : Srt lt p k) : ∀ (f l r : Nat), r - l ≤ f → l ≤ r → r ≤ k → (∀ i, i < l → lt (at0 p i) (at0 p k) = true) → (∀ i, r ≤ i → i < k → lt (at0 p k) (at0 p i) = true) →
  KOk n lt (kas_place p k f l r) (fun l => l ≤ k ∧ (∀ i, i < l → lt (at0 p i) (at0 p k) = true) ∧ ∀ i, l ≤ i → i < k → lt (at0 p k) (at0 p i) = true)
 | 0, l, r, h1, h2, h3, h4, h5 => ⟨by lia, h4, fun i hi hik => h5 i (by lia) hik⟩
 | f + 1, l, r, h1, h2, h3, h4, h5 => by
  unfold kas_place
  by_cases e : l ≥ r
  ·rw [if_pos e]
   exact ⟨by lia, h4, fun i hi hik => h5 i (by lia) hik⟩
  ·rw [if_neg e]
   refine ⟨hp.bd (i := k) hk, hp.bd (i := (l + r) / 2) (by lia), ?_⟩
   have hmid : (l + r) / 2 < r ∧ l ≤ (l + r) / 2 := by lia
   cases c : lt (p.getD k 0) (p.getD ((l + r) / 2) 0) with
   | true =>
    dsimp only
    rw [if_pos rfl]
    refine Nz S hp hk hs f l ((l + r) / 2) (by lia) (by lia) (by lia) h4 fun i hi hik => ?_
    by_cases e2 : i = (l + r) / 2
    ·subst e2; exact c
    ·exact S.trans _ _ _ c (Srt.all S hs (by lia) hik)
   | false =>
    dsimp only
    rw [if_neg (by simp)]
    have d : lt (at0 p ((l + r) / 2)) (at0 p k) = true := by
     rcases S.tri (at0 p ((l + r) / 2)) (at0 p k) (hp.bd (by lia)) (hp.bd hk) (fun z => by have := hp.inj (by lia) hk z; lia) with z | z
     ·exact z
     ·have z' : lt (p.getD k 0) (p.getD ((l + r) / 2) 0) = true := z
      rw [c] at z'; cases z'
    refine Nz S hp hk hs f ((l + r) / 2 + 1) r (by lia) (by lia) h3 (fun i hi => ?_) h5
    by_cases e2 : i = (l + r) / 2
    ·subst e2; exact d
    ·exact S.trans _ _ _ (Srt.all S hs (i := i) (j := (l + r) / 2) (by lia) (by lia)) d
theorem Pd (hp : PR n p) {k l j : Nat} (hk : k < n) (hl : l ≤ k) : at0 (bubble p k (k - l)) j = if j = l then at0 p k else if l < j ∧ j ≤ k then at0 p (j - 1) else at0 p j := by
 have hs := hp.size
 unfold at0
 rw [zd, getElem?_bubble (by lia) (k - l) (by lia) j, show k - (k - l) = l by lia]
 repeat' split
 all_goals rw [zd]
theorem V1 (S : STO n lt) : ∀ (f k : Nat) (p : Array Nat), PR n p → k + f = n → Srt lt p k → KOk n lt (kas_bin f p k) (fun q => PR n q ∧ Srt lt q n)
 | 0, k, p, hp, hk, hs => by
  have e : k = n := by lia
  subst e
  exact ⟨hp, hs⟩
 | f + 1, k, p, hp, hk, hs => by
  refine KOk.bind (KOk.mono (fun l hl => ?_) (Nz S hp (by lia) hs k 0 k (by lia) (by lia) (zG _) (fun i hi => by lia) (fun i h1 h2 => by lia)))
  obtain ⟨h1, h2, h3⟩ := hl
  refine V1 S f (k + 1) _ ⟨(bubble_perm ..).trans hp.pm⟩ (by lia) fun i hi => ?_
  rw [Pd hp (by lia) h1, Pd hp (by lia) h1]
  by_cases c1 : i + 1 < l
  ·rw [if_neg (by lia), if_neg (by lia), if_neg (by lia), if_neg (by lia)]
   exact hs i (by lia)
  ·by_cases c2 : i + 1 = l
   ·rw [if_neg (by lia), if_neg (by lia), if_pos c2]
    exact h2 i (by lia)
   ·by_cases c3 : i = l
    ·rw [if_pos c3, if_neg (by lia), if_pos (by lia), show i + 1 - 1 = i by lia]
     exact h3 i (by lia) (by lia)
    ·rw [if_neg c3, if_pos (by lia), if_neg (by lia), if_pos (by lia), show i + 1 - 1 = i by lia]
     have := hs (i - 1) (by lia)
     rw [show i - 1 + 1 = i by lia] at this
     exact this
theorem WX (S : STO n lt) (h2 : 2 ≤ n) : KOk n lt (kas_sort n) (fun q => PR n q ∧ Srt lt q n) := by
 refine KOk.bind (KOk.mono (fun r hr => ?_) (Ul S ⟨Array.Perm.refl _⟩ h2))
 obtain ⟨h1, h3, h4, h5⟩ := hr
 by_cases e : r.1 < n
 ·rw [if_pos e, show max r.1 1 = r.1 by lia]
  exact V1 S _ _ _ h1 (by lia) h5
 ·rw [if_neg e]
  exact ⟨h1, by have e2 : r.1 = n := by lia
                rw [← e2]; exact h5⟩
end
section
variable {prog : Program} {w : World} {A : Around} {E : Value → Shared → Prop} {s : Shared}
noncomputable def EQ (vs : List Value) (p : Array Nat) : List Value := p.toList.map fun i => vs.getD i Value.none
theorem Td {vs : List Value} {p : Array Nat} (hp : PR vs.length p) : (EQ vs p).length = vs.length := by
 unfold EQ; rw [z5, Array.length_toList, hp.size]
theorem L8 {vs : List Value} (h : vs.length < 2) : EQ vs (List.range vs.length).toArray = vs := by
 cases vs with
 | nil => rfl
 | cons a r =>
  cases r with
  | nil => rfl
  | cons b q => simp only [zE] at h; lia
theorem WC (vs : List Value) : (vs.toArray.zip vs.toArray).map (·.2) = vs.toArray := by
 apply Array.toList_inj.mp
 rw [Array.toList_map, Array.toList_zip]
 exact List.map_snd_zip (zG _)
theorem Uf {a : Addr} {vs : List Value} {n : Nat} {lt : Nat → Nat → Bool} {P : PySem.Fin → Shared → Prop} (ho : s.heap.get? a = some (seqObj "list" vs.toArray n)) (S : STO vs.length lt) (h64 : vs.length < 64)
  (hc : 2 ≤ vs.length → ∀ h' : Heap, (∀ b o, b ≠ a → s.heap.get? b = some o → h'.get? b = some o) → ∃ κ : SortKind,
   (∀ (R : SortKind → Shared → Prop), R κ { s with heap := h' } → wpAny (model prog w) A (keyKind' vs.toArray) R (fun _ _ => False) { s with heap := h' }) ∧
   ∀ i j (C : Bool → Shared → Prop), i < vs.length → j < vs.length → C (lt i j) { s with heap := h' } → wpAny (model prog w) A (keyLt' κ (vs.getD i Value.none) (vs.getD j Value.none)) C (fun _ _ => False) { s with heap := h' })
  (h : ∀ (h' : Heap) (p : Array Nat) (c : Nat), (∀ b o, b ≠ a → s.heap.get? b = some o → h'.get? b = some o) → h'.get? a = some (seqObj "list" (EQ vs p).toArray c) → PR vs.length p → Srt lt p vs.length → P (.done (.ret .none)) { s with heap := h' }) :
  wpAny (model prog w) A (Builtin.«list.sort» ⟨[.ref a], []⟩) P E s := by
 have ha : a < s.heap.objs.size := zH ho
 have s1 := Heap.SameBut.update s.heap a (Obj.mapSeq fun _ => (#[] : Array Value))
 obtain ⟨e1, ho1⟩ : ∃ e1, (s.heap.update a (Obj.mapSeq fun _ => (#[] : Array Value))).get? a = some (seqObj "list" #[] e1) := ⟨_, get?_update_seq ho fun _ => #[]⟩
 rw [list_sort_plain]
 refine wpAny_bind (listItems_at ho rfl ?_)
 refine wpAny_bind (listUpdate_at ho rfl ?_ (by rw [zQ, sizeLine_eq]; lia) (zi _))
 refine wpAny_bind (seqEpoch_at ho1 rfl ?_)
 refine wpAny_bind (wpAny_newTuple ?_ (by show vs.length ≤ _; rw [sizeLine_eq]; lia))
 refine wpAny_bind (wpAny_newList ?_ (zi _))
 refine wpAny_holding ?_
 generalize hH : ((s.heap.update a (Obj.mapSeq fun _ => (#[] : Array Value))).push (seqObj "tuple" vs.toArray 0)).push (seqObj "list" #[] 0) = H3
 show wpAny (model prog w) A _ P E { s with heap := H3 }
 dsimp only
 have keep3 : ∀ b o, b ≠ a → s.heap.get? b = some o → H3.get? b = some o := fun b o hb e => by
  rw [← hH]; exact zB _ (zB _ ((s1.2 b hb).trans e))
 have at3 : H3.get? a = some (seqObj "list" #[] e1) := by rw [← hH]; exact zB _ (zB _ ho1)
 have fin : ∀ (p : Array Nat), PR vs.length p → Srt lt p vs.length → P (.done (.ret .none)) { s with heap := H3.update a (Obj.mapSeq fun _ => (EQ vs p).toArray) } := fun p hp hs => by
  obtain ⟨c2, hc2⟩ : ∃ c2, (H3.update a (Obj.mapSeq fun _ => (EQ vs p).toArray)).get? a = some (seqObj "list" (EQ vs p).toArray c2) := ⟨_, get?_update_seq at3 fun _ => (EQ vs p).toArray⟩
  exact h _ p c2 (fun b o hb e => ((Heap.SameBut.update H3 a _).2 b hb).trans (keep3 b o hb e)) hc2 hp hs
 by_cases h2 : vs.toArray.size < 2
 ·rw [if_pos h2, if_pos h2]
  have hl2 : vs.length < 2 := by simpa using h2
  refine wpAny_bind (wpAny_pure ?_)
  rw [StateT.run_pure]
  refine wpAny_bind (wpAny_pure ?_)
  dsimp only
  refine wpAny_bind (seqEpoch_at at3 rfl ?_)
  have ez : ((vs.toArray.zip vs.toArray).map (·.2)) = (EQ vs (List.range vs.length).toArray).toArray := by
   rw [L8 hl2]
   exact WC vs
  show wpAny _ _ (Builtin.List.listUpdate (.ref a) (fun _ => (vs.toArray.zip vs.toArray).map (·.2)) >>= _) _ _ _
  rw [ez]
  refine wpAny_bind (listUpdate_at at3 rfl ?_ (zi _) (by show (EQ vs (List.range vs.length).toArray).toArray.size ≤ _; rw [L8 hl2, zQ, sizeLine_eq]; lia))
  simp only [bne_self_eq_false, zn, if_false]
  exact wpAny_pure (fin _ ⟨Array.Perm.refl _⟩ fun i hi => by lia)
 ·rw [if_neg h2, if_neg h2]
  have hl2 : 2 ≤ vs.length := by simpa using h2
  obtain ⟨κ, k1, k2⟩ := hc hl2 H3 keep3
  refine wpAny_bind (wpAny_mono (k1 (fun κ' s' => κ' = κ ∧ s' = { s with heap := H3 }) ⟨rfl, rfl⟩) ?_ fun _ _ x => x.elim)
  rintro κ' s' ⟨rfl, rfl⟩
  refine wpAny_bind (wpAny_mono (kat_run (Q := fun st' s' => ∃ p : Array Nat, arrOf st' = p.map (kas_item (vs.toArray.zip vs.toArray)) ∧ failedOf st' = none ∧ PR vs.length p ∧ Srt lt p vs.length ∧ s' = { s with heap := H3 })
   (G := fun p s' => PR vs.length p ∧ Srt lt p vs.length ∧ s' = { s with heap := H3 }) rfl hl2 h64 (fun p' st' s' a1 a2 a3 a4 => ⟨p', a2, a3, a4⟩)
   (KOk.wp (fun i j C hi hj q => k2 i j C hi hj q) (KOk.mono (fun q hq => ⟨hq.1, hq.2, rfl⟩) (WX S hl2)))) ?_ fun _ _ e => e)
  rintro ⟨⟨⟩, st'⟩ s' ⟨p, har, hf, hp, hs, rfl⟩
  dsimp only
  refine wpAny_bind (seqEpoch_at at3 rfl ?_)
  have hout : (arrOf st').map (·.2) = (EQ vs p).toArray := kat_snds rfl har
  rw [hout]
  refine wpAny_bind (listUpdate_at at3 rfl ?_ (zi _) (by show (EQ vs p).toArray.size ≤ _; rw [zQ, Td hp, sizeLine_eq]; lia))
  rw [hf]
  simp only [bne_self_eq_false, zn, if_false]
  exact wpAny_pure (fin p hp hs)
theorem UD {l : Addr} {vs : List Value} {lt : Nat → Nat → Bool} {Q : Value → Shared → Prop} (hl : s.heap.IsList l vs.toArray) (S : STO vs.length lt) (h64 : vs.length < 64)
  (hc : 2 ≤ vs.length → ∀ h' : Heap, (∀ b o, s.heap.get? b = some o → h'.get? b = some o) → ∃ κ : SortKind,
   (∀ (R : SortKind → Shared → Prop), R κ { s with heap := h' } → wpAny (model prog w) A.in1.in1 (keyKind' vs.toArray) R (fun _ _ => False) { s with heap := h' }) ∧
   ∀ i j (C : Bool → Shared → Prop), i < vs.length → j < vs.length → C (lt i j) { s with heap := h' } → wpAny (model prog w) A.in1.in1 (keyLt' κ (vs.getD i Value.none) (vs.getD j Value.none)) C (fun _ _ => False) { s with heap := h' })
  (h : ∀ (D : Addr) (h' : Heap) (p : Array Nat) (c : Nat), s.heap.objs.size ≤ D → (∀ b o, s.heap.get? b = some o → h'.get? b = some o) → h'.get? D = some (seqObj "list" (EQ vs p).toArray c) → PR vs.length p → Srt lt p vs.length → Q (.ref D) { s with heap := h' }) :
  wpAny (model prog w) A (call (.builtin "sorted") [.ref l]) Q E s := by
 refine Calls.call_function_entry kind_sorted plain_sorted entry_sorted (args_sorted1 _) ?_
 unfold Builtin.«sorted»
 refine wpAny_bind (m := checkCount "sorted" 1 1 _) (wpAny_pure ?_)
 refine wpAny_bind (collect_list hl ?_ (by rw [sizeLine_eq]; lia))
 refine wpAny_bind (wpAny_newList ?_ (by rw [sizeLine_eq]; lia))
 have hsz : ((s.heap.push (seqObj "list" #[] 0)).update s.heap.objs.size (Obj.mapSeq (· ++ vs.toArray))).objs.size = s.heap.objs.size + 1 := by
  rw [Heap.size_update, size_push']
 have hoL : (((s.heap.push (seqObj "list" #[] 0)).update s.heap.objs.size (Obj.mapSeq (· ++ vs.toArray))).push (seqObj "list" vs.toArray 0)).get? (s.heap.objs.size + 1) = some (seqObj "list" vs.toArray 0) := by
  rw [← hsz]; exact zY _ rfl
 have keep : ∀ b o, s.heap.get? b = some o → (((s.heap.push (seqObj "list" #[] 0)).update s.heap.objs.size (Obj.mapSeq (· ++ vs.toArray))).push (seqObj "list" vs.toArray 0)).get? b = some o := fun b o q => by
  have hlt : b < s.heap.objs.size := zH q
  rw [Heap.get?_push_ne _ _ _ (by rw [hsz]; exact zX (Nat.lt_succ_of_lt hlt)), Heap.get?_update_ne _ _ _ _ (zX hlt), Heap.get?_push_ne _ _ _ (zX hlt)]
  exact q
 show wpAny _ _ _ _ _ { s with heap := ((s.heap.push (seqObj "list" #[] 0)).update s.heap.objs.size (Obj.mapSeq (· ++ vs.toArray))).push (seqObj "list" vs.toArray 0) }
 rw [hsz]
 have ne : ∀ b o, s.heap.get? b = some o → b ≠ s.heap.objs.size + 1 := fun b o q => zX (Nat.lt_succ_of_lt (zH q))
 refine wpAny_bind (wpAny_holding (wpAny_call_entry slot_list_sort ⟨_, hoL, rfl⟩ entry_list_sort ?body (args_list_sort _)))
 case body =>
  refine Uf (s := { s with heap := ((s.heap.push (seqObj "list" #[] 0)).update s.heap.objs.size (Obj.mapSeq (· ++ vs.toArray))).push (seqObj "list" vs.toArray 0) }) hoL S h64
   (fun h2 h' k => hc h2 h' fun b o q => k b o (ne b o q) (keep b o q)) fun h' p c k hat hp hs => ?_
  exact ⟨_, rfl, wpAny_pure ⟨_, rfl, h _ h' p c (Nat.le_succ _) (fun b o q => k b o (ne b o q) (keep b o q)) hat hp hs⟩⟩
end
theorem Qq : ∀ {a b : List Int}, HT.lexLt a b = true → HT.lexLt b a = false
 | [], [], h => by cases h
 | [], _ :: _, _ => rfl
 | _ :: _, [], h => by cases h
 | x :: r, y :: t, h => by
  rw [HT.lexLt_cons] at h ⊢
  by_cases e : x = y
  ·rw [if_pos e] at h; rw [if_pos e.symm]; exact Qq h
  ·rw [if_neg e] at h; rw [if_neg (Ne.symm e)]
   have := z6 h
   exact za (by lia)
theorem PH : ∀ {a b c : List Int}, HT.lexLt a b = true → HT.lexLt b c = true → HT.lexLt a c = true
 | [], _, [], _, h => by rename_i b _; cases b <;> cases h
 | [], _, _ :: _, _, _ => rfl
 | _ :: _, [], _, h, _ => by cases h
 | _ :: _, _ :: _, [], _, h => by cases h
 | x :: r, y :: t, z :: u, h1, h2 => by
  rw [HT.lexLt_cons] at h1 h2 ⊢
  by_cases e1 : x = y
  ·rw [if_pos e1] at h1
   by_cases e2 : y = z
   ·rw [if_pos e2] at h2; rw [if_pos (e1.trans e2)]; exact PH h1 h2
   ·rw [if_neg e2] at h2; rw [if_neg (by lia), e1]; exact h2
  ·rw [if_neg e1] at h1
   by_cases e2 : y = z
   ·rw [if_neg (by lia), ← e2]; exact h1
   ·rw [if_neg e2] at h2
    have d1 := z6 h1
    have d2 := z6 h2
    rw [if_neg (by lia)]
    exact z8 (by lia)
theorem Sz : ∀ {a b : List Int}, a ≠ b → HT.lexLt a b = true ∨ HT.lexLt b a = true
 | [], [], h => absurd rfl h
 | [], _ :: _, _ => .inl rfl
 | _ :: _, [], _ => .inr rfl
 | x :: r, y :: t, h => by
  rw [HT.lexLt_cons, HT.lexLt_cons]
  by_cases e : x = y
  ·rw [if_pos e, if_pos e.symm]
   exact Sz fun z => h (by rw [e, z])
  ·rw [if_neg e, if_neg (Ne.symm e)]
   rcases (by lia : x < y ∨ y < x) with z | z
   ·exact .inl (z8 z)
   ·exact .inr (z8 z)
theorem Wc {ts : List (List Int)} (h : ts.Nodup) : STO ts.length (fun i j => HT.lexLt (ts.getD i []) (ts.getD j [])) where
 tri := fun i j hi hj hij => Sz fun z => hij ((List.getElem_inj h).mp (by simpa [zI, hi, hj] using z))
 asym := fun _ _ => Qq
 trans := fun _ _ _ => PH
section
variable {prog : Program} {w : World} {A : Around} {s : Shared}
theorem MC {Q : Bool → Shared → Prop} : ∀ {t1 t2 : List Int} {us ws : List Value} (i : Nat) (fin : Bool), Al (t1.map V.int) us → Al (t2.map V.int) ws → fin = decide (t1.length < t2.length) → Q (HT.lexLt t1 t2) s →
  KatLex prog w A true fin Q (us.zip ws) i s
 | [], [], us, ws, i, fin, r1, r2, hf, q => by
  cases r1; cases r2
  rw [hf]; exact q
 | [], _ :: _, us, ws, i, fin, r1, r2, hf, q => by
  cases r1
  rw [hf]; exact q
 | x :: t1, [], us, ws, i, fin, r1, r2, hf, q => by
  cases r2
  have e : us.zip ([] : List Value) = [] := by cases us <;> rfl
  rw [e, hf]; exact q
 | x :: t1, y :: t2, us, ws, i, fin, r1, r2, hf, q => by
  cases r1 with
  | cons ra rb =>
   cases r2 with
   | cons rc rd =>
    obtain ⟨k1, rfl⟩ := ra
    obtain ⟨k2, rfl⟩ := rc
    refine kat_cons (wpAny_eqBool_int ?_)
    rw [HT.lexLt_cons] at q
    by_cases e : x = y
    ·rw [if_pos e] at q
     have e2 : (x == y) = true := by simpa using e
     rw [e2]
     refine kat_yes (MC (i + 1) fin rb rd ?_ q)
     rw [hf]; simp
    ·rw [if_neg e] at q
     have e2 : (x == y) = false := by simpa using e
     rw [e2]
     refine kat_no ?_
     cases i with
     | zero => exact oneLt_int q
     | succ i => exact kat_one _ _ (lt_int (show W.BoolBack Q (.bool (decide (x < y))) s from q))
end
section
variable {X : Cx}
theorem PF : ∀ {zs : List (Addr × List Int)} {us : List Value}, Al (zs.map fun z => V.ref z.1) us → us = zs.map fun z => Value.ref z.1
 | [], _, r => by cases r; rfl
 | z :: zs, _, r => by
  cases r with
  | cons ra rb =>
   cases ra
   rw [PF rb]; rfl
theorem Qd {h : Heap} {K : W.Frag} {M : Model} : ∀ {zs : List (Addr × List Int)}, (∀ z ∈ zs, z.2 ≠ [] ∧ ∃ its : List Value, Al (z.2.map V.int) its ∧ IsTup h z.1 its.toArray) →
  ∃ fs : List Value, KatTups h (zs.map fun z => Value.ref z.1) fs ∧ fs.length = zs.length ∧ ∀ v ∈ fs, ∃ i t, v = Value.int i t
 | [], _ => ⟨[], .nil, rfl, fun _ hv => absurd hv (by simp)⟩
 | z :: zs, hz => by
  obtain ⟨fs, h1, h2, h3⟩ := Qd (h := h) (K := K) (M := M) (zs := zs) fun y hy => hz y (zD _ hy)
  obtain ⟨hne, its, rv, o, ho, hc, n, hd⟩ := hz z zR
  obtain ⟨a, t⟩ := z
  cases t with
  | nil => exact absurd rfl hne
  | cons x t =>
   cases rv with
   | cons ra rb =>
    obtain ⟨tk, rfl⟩ := ra
    refine ⟨.int x tk :: fs, KatTups.cons ho hc hd (by simp) h1, by rw [zE, zE, h2], fun v hv => ?_⟩
    rcases zL.mp hv with rfl | hv
    ·exact ⟨x, tk, rfl⟩
    ·exact h3 v hv
noncomputable def El (K : W.Frag) : List V → Hp → VK → Prop := fun xs H Q => ∃ l, xs = [.ref l] ∧ ∃ zs : List (Addr × List Int), SqL K H l (zs.map fun z => V.ref z.1) ∧ (∀ z ∈ zs, z.2 ≠ [] ∧ SqT K H z.1 (z.2.map V.int)) ∧ (zs.map (·.2)).Nodup ∧ zs.length < 64 ∧
 ∀ (D : Addr) (H' : Hp) (zs' : List (Addr × List Int)), H D = none → AI H H' → H' D = some (.lst (zs'.map fun z => V.ref z.1)) → zs'.Perm zs → zs'.Pairwise (fun a b => HT.lexLt a.2 b.2 = true) → Q (.ref D) H'
theorem Qk {zs : List (Addr × List Int)} {i : Nat} (hi : i < zs.length) : (zs.map fun z => Value.ref z.1).getD i Value.none = Value.ref (zs[i]).1 := by
 rw [zI, zJ, z4 hi]; rfl
noncomputable def MR {α : Type} (d : α) (xs : List α) (p : Array Nat) : List α := p.toList.map fun i => xs.getD i d
theorem UM {α : Type} (d : α) (xs : List α) {p : Array Nat} (hp : PR xs.length p) : (MR d xs p).Perm xs := by
 have h1 : p.toList.Perm (List.range xs.length) := by simpa using Array.perm_iff_toList_perm.mp hp.pm
 have h2 := h1.map fun i => xs.getD i d
 have h3 : ((List.range xs.length).map fun i => xs.getD i d) = xs := by
  refine List.ext_getElem (by simp) fun i h1 h2 => ?_
  simp [zI]
  rw [z4 h2]; rfl
 rw [h3] at h2
 exact h2
theorem VD {α β : Type} (d : α) (e : β) (f : α → β) (xs : List α) {p : Array Nat} (hp : PR xs.length p) : MR e (xs.map f) p = (MR d xs p).map f := by
 unfold MR
 rw [qN]
 refine List.map_congr_left fun i hi => ?_
 have hi' : i < xs.length := by
  have := (hp.pm.mem_iff).mp (Array.mem_toList_iff.mp hi)
  simpa using this
 show (xs.map f).getD i e = f (xs.getD i d)
 rw [zI, zI, zJ, z4 hi']; rfl
theorem TZ {α : Type} (d : α) (xs : List α) {p : Array Nat} {k : Nat} (hk : k < (MR d xs p).length) : (MR d xs p)[k] = xs.getD (at0 p k) d := by
 have hk' : k < p.size := by simpa [MR] using hk
 have e : (MR d xs p)[k]? = some (xs.getD (at0 p k) d) := by
  unfold MR at0
  rw [zJ, Array.getElem?_toList, zd, Array.getElem?_eq_getElem hk']; rfl
 rw [z4 hk] at e
 exact zN e
theorem P7 : Bl X (.builtin "sorted") (El X.K) := by
 intro pins s σ H xs us Q I r h
 obtain ⟨l, rfl, zs, hl, ht, nd, h64, q⟩ := h
 obtain ⟨u, rfl, ru⟩ := vals1 r
 cases ru
 obtain ⟨its, rv, pl, hz⟩ := I.list hl
 have ei := PF rv
 subst ei
 have hlen : (zs.map fun z => Value.ref z.1).length = zs.length := z5 _
 have S : STO (zs.map fun z => Value.ref z.1).length (fun i j => HT.lexLt ((zs.map (·.2)).getD i []) ((zs.map (·.2)).getD j [])) := by
  rw [hlen]
  have := Wc nd
  rw [z5] at this
  exact this
 refine UD pl.isList S (by rw [hlen]; exact h64) (fun h2 h' kp => ?_) fun D h' p c hD kp hat hp hs => ?_
 ·have tups : ∀ z ∈ zs, z.2 ≠ [] ∧ ∃ its : List Value, Al (z.2.map V.int) its ∧ IsTup h' z.1 its.toArray := fun z hz => by
   obtain ⟨n1, n2⟩ := ht z hz
   obtain ⟨its, r1, ⟨o, ho, hc⟩, _⟩ := I.tuple n2
   exact ⟨n1, its, r1, o, kp _ _ ho, hc⟩
  obtain ⟨fs, t1, t2, t3⟩ := Qd (K := X.K) (M := model X.prog X.w) tups
  refine ⟨tuples' (Value.type "int" != Value.type "tuple"), fun R hR => ?_, fun i j C hi hj hC => ?_⟩
  ·refine kat_kind t1 (by rw [t2]; rw [hlen] at h2; lia) (fun v hv => ?_) (by decide) hR
   obtain ⟨i, t, rfl⟩ := t3 v hv
   exact .of_pure rfl
  ·rw [hlen] at hi hj
   rw [Qk hi, Qk hj]
   obtain ⟨_, i1, r1, o1, ho1, _, n1, hd1⟩ := tups zs[i] (zV hi)
   obtain ⟨_, i2, r2, o2, ho2, _, n2, hd2⟩ := tups zs[j] (zV hj)
   have eb : (Value.type "int" != Value.type "tuple") = true := by decide
   rw [eb]
   have l1 := r1.length
   have l2 := r2.length
   rw [z5] at l1 l2
   refine kat_lt ho1 hd1 ho2 hd2 ?_
   refine MC 0 _ r1 r2 ?_ ?_
   ·simp [l1, l2]
   ·have g1 : (zs.map (·.2)).getD i [] = zs[i].2 := by rw [zI, zJ, z4 hi]; rfl
    have g2 : (zs.map (·.2)).getD j [] = zs[j].2 := by rw [zI, zJ, z4 hj]; rfl
    rw [g1, g2] at hC
    exact hC
 ·rw [hlen] at hp hs
  have hfr : H D = none := I.hok.fresh hD
  have eo : EQ (zs.map fun z => Value.ref z.1) p = (MR ((0 : Addr), ([] : List Int)) zs p).map fun z => Value.ref z.1 := VD (0, []) Value.none (fun z : Addr × List Int => Value.ref z.1) zs hp
  have ep := UM ((0 : Addr), ([] : List Int)) zs hp
  have rel : ∀ ys : List (Addr × List Int), Al (ys.map fun z => V.ref z.1) (ys.map fun z => Value.ref z.1) := fun ys => by
   induction ys with
   | nil => exact .nil
   | cons y ys ih => exact .cons rfl ih
  have I2 : Inv X pins σ (upd H D (.lst ((MR ((0 : Addr), ([] : List Int)) zs p).map fun z => V.ref z.1))) { s with heap := h' } := by
   refine I.laid (t' := s.toks) kp hD ⟨by rw [z5, ep.length_eq, PySem.sizeLine_eq]; lia, _, c, rel _, ?_⟩
   rw [hat, eo]
  refine ⟨.ref D, _, I2, rfl, q D _ _ hfr (Aw hfr) AN ep ?_⟩
  refine List.pairwise_iff_getElem.mpr fun i j hi hj hij => ?_
  have hpl : (MR ((0 : Addr), ([] : List Int)) zs p).length = zs.length := ep.length_eq
  rw [TZ, TZ]
  have := Srt.all (n := zs.length) (by rw [hlen] at S; exact S) hs hij (by lia)
  have g : ∀ k, k < zs.length → (zs.map (·.2)).getD (at0 p k) [] = (zs.getD (at0 p k) (0, [])).2 := fun k hk => by
   have := hp.bd hk
   rw [zI, zI, zJ, z4 this]; rfl
  rw [g i (by lia), g j (by lia)] at this
  exact this
end
theorem BW : bootBuiltins "sorted" = some (.builtin "sorted") := by decide +kernel
section
variable {X : Cx} {pos : Pos}
noncomputable def E5 : TE := fun _ H Q => ∀ p H', H p = none → AI H H' → H' p = some (.dK []) → Q (.ref p) H'
theorem RF : PE X (.Dict [] [] pos) E5 := fun pins s σ H Q I h => U6 pins s σ H Q I fun p hp => h p _ hp (Aw hp) AN
end
section
variable {X : Cx} {o e : Expr} {to te : TE} {pos : Pos}
theorem PE.weak {e : Expr} {t t' : TE} (h : PE X e t) (m : ∀ σ H Q, t' σ H Q → t σ H Q) : PE X e t' := fun pins s σ H Q I q => h pins s σ H Q I (m σ H Q q)
noncomputable def C5 (to te : TE) : TE := fun σ H Q => to σ H fun x H1 => ∃ l, x = .ref l ∧ ∃ xs, H1 l = some (.lst xs) ∧ te σ H1 fun y H2 => ∃ ys, H2 l = some (.lst ys) ∧ ys.length < sizeLine ∧ Q .non (upd H2 l (.lst (ys ++ [y])))
end
theorem WM {H : Hp} {p l : Addr} {xs : List V} {o u : HO} (h : H p = some (.tup xs)) (hl : H l = some o) (hm : ∀ ys, o ≠ .tup ys) : L2.upd H l u p = some (.tup xs) := by
 rw [AL (BQ h hl (Ne.symm (hm _)))]; exact h
section
variable {X : Cx} {o e : Expr} {to te : TE} {pos apos cpos : Pos}
noncomputable def tMono (t : TE) : TE := fun σ H Q => ∃ P : VK, t σ H P ∧ ∀ v H', P v H' → Q v H'
theorem PE.mono {t : TE} (h : PE X e t) : PE X e (tMono t) := fun pins s σ H Q I ⟨P, h1, h2⟩ =>
 thn (h pins s σ H P I h1) fun u s1 ⟨v, H1, I1, r1, q1⟩ => ⟨v, H1, I1, r1, h2 v H1 q1⟩
theorem BJ (ho : PE X o to) (he : PE X e te)
  (hbase : attributeBase o "append" X.env (eval o X.env) = eval o X.env := by rfl)
  (hfew : ((backTo cpos (starEach [e] X.env)).all (fun x => !x.1) && (backToKw cpos (keywordEach [] X.env)).all (fun x => x.1.isSome)
   && decide ([e].length + ([] : List Keyword).length + (if ([] : List Keyword).isEmpty then 0 else 1) < 30)) = true := by rfl)
  (hline : (apos.endLine == cpos.line) = true := by rfl) (hs : starEach [e] X.env = (false, eval e X.env) :: starEach [] X.env := by rfl) (hplain : (backTo cpos (starEach [] X.env)).any (·.1) = false := by rfl) :
  PE X (.Call (.Attribute o "append" apos) [e] [] cpos) (C5 to te) :=
 PE.weak (XH PySem.F.plainAttrs_list PySem.F.slot_list_append PySem.F.type_list_append Pk ho.mono (AA he.mono AC hs) hbase hfew hline hs hplain) fun σ H Q h => by
  refine ⟨_, h, fun x H1 h1 => ?_⟩
  obtain ⟨l, rfl, xs, e1, h1⟩ := h1
  refine ⟨.inl ⟨rfl, xs, SqL.of e1⟩, _, h1, fun y H2 h2 => ?_⟩
  obtain ⟨ys, e2, hz, q⟩ := h2
  exact ⟨l, ys, y, rfl, rfl, e2, hz, q⟩
end
section
variable {X : Cx} {pos : Pos}
noncomputable def Pi (i j k : Nat) (ta : TA) : TS := fun D σ H => ta σ H fun vs H1 => ∃ v w u, vs = [v, w, u] ∧ D.nx (((σ.set i (some v)).set j (some w)).set k (some u)) H1
end
section
variable {X : Cx}
noncomputable def QP (K : W.Frag) : R2 := fun x y H Q => ∃ a b, x = .ref a ∧ y = .ref b ∧ ∃ ns : List Int, SqT K H a (ns.map V.int) ∧ ∃ ms : List Int, SqT K H b (ms.map V.int) ∧ Q (.bl (decide (ns = ms))) H
noncomputable def Pt (K : W.Frag) : R2 := fun x y H Q => ∃ a b, x = .ref a ∧ y = .ref b ∧ ∃ ns : List Int, SqT K H a (ns.map V.int) ∧ ∃ ms : List Int, SqT K H b (ms.map V.int) ∧ Q (.bl (!decide (ns = ms))) H
noncomputable def Jv (K : W.Frag) : R2 := fun x y H Q => ∃ a b, x = .ref a ∧ y = .ref b ∧ ∃ xs, SqL K H a xs ∧ SqL K H b [] ∧ Q (.bl (decide (xs = []))) H
theorem Km {K : W.Frag} (h : X.K = K) : IxR X (Me K) := h ▸ AS
theorem Ve {K : W.Frag} (h : X.K = K) : IxR X (Mn K) := h ▸ AM
noncomputable def OL (K : W.Frag) : V → Option Int → Option Int → Hp → VK → Prop := fun x lo hi H Q => ∃ a, x = .ref a ∧ ∃ xs, SqL K H a xs ∧ ∀ p H', H p = none → AI H H' → H' p = some (.lst (Oh xs lo hi)) → Q (.ref p) H'
theorem FL : SlR X (OL X.K) := fun pins s σ H x v vl vu lo hi sl Q I rx hs pl pu ⟨a, e, xs, h, q⟩ => WB pins s σ H x v vl vu lo hi sl Q I rx hs pl pu ⟨a, xs, e, h, fun p hp => q p _ hp (Aw hp) AN⟩
theorem PP {xs : List V} {i : Nat} : Oh xs (some (i : Int)) none = xs.drop i := by
 unfold Oh
 rw [HT.sIx_nat, HT.sIx_none]
 by_cases h : i ≤ xs.length
 ·rw [Nat.min_eq_left h, List.take_of_length_le (by rw [zu]; lia)]
 ·rw [Nat.min_eq_right (by lia), Nat.sub_self, List.take_zero, List.drop_eq_nil_of_le (by lia)]
end
section
variable {X : Cx} {pins : List (Addr × Obj)} {σ : St} {H : Hp} {s : Shared} {h' : Heap}
theorem Inv.turnedL {t' : Nat} {its : List Addr} (I : Inv X pins σ H s) (k : ∀ b o, b ∉ its → s.heap.get? b = some o → h'.get? b = some o) (hf : ∀ b ∈ its, ML X pins H b) : Inv X pins σ H { s with heap := h', toks := t' } := by
 have nit : ∀ b u, H b = some u → b ∉ its := fun b u e z => by rw [(hf b z).1] at e; cases e
 refine I.step (g' := s.gens) (d' := s.drawn) (ch := its) (fun b hb => ?_) (fun b o _ _ hc e _ => k b o hc e) (fun b o _ _ hc e _ => ⟨o.slots, k b o hc e⟩) (fun _ _ _ _ n => n)
  (fun b o hc e => ⟨o, k b o hc e⟩) (fun _ _ e => e) (fun _ _ _ e => e) (fun b ps e => ⟨#[], by rw [e]; simp⟩) (fun m hm => ?_) (fun b u e => ?_) I.bare
 ·obtain ⟨f0, f1, f2, f3, f4, f5⟩ := hf b hb
  exact ⟨f3, f1, f4, f5⟩
 ·obtain ⟨o, es, ep, ho, r⟩ := hm
  exact ⟨o, es, ep, k _ o (fun z => (hf _ z).2.1 rfl) ho, r⟩
 ·refine (I.hok b u e).stay (fun c v hc q => k c v ?_ q) (fun _ q => q) fun _ _ q => q
  rcases hc with z | z
  ·rw [z]; exact nit b u e
  ·exact nit c _ z
end
noncomputable def Ite (K : W.Frag) (a : Addr) : It :=
 ⟨fun i H => ∃ xs x, SqL K H a xs ∧ xs[i]? = some x, fun i H x H' => ∃ p y, x = .ref p ∧ H p = none ∧ H' = upd H p (.tup [.int (i : Int), y]) ∧ ∀ xs, SqL K H a xs → xs[i]? = some y, fun i H => ∃ xs, SqL K H a xs ∧ xs.length ≤ i⟩
theorem UJ {P : Program} {w : World} {K : W.Frag} {elts : List Expr} {k : Nat} {tp : Pos} (a e it : Addr) (hei : e ≠ it) :
  Tv P w K (.Tuple elts k tp) (Ite K a) [e, it] e (fun i h => (∃ old, IsEnum h e it (i : Int) old) ∧ h.IsListIter it a i) where
 mem := by simp
 obj := fun i h st b hb => by
  obtain ⟨⟨old, he⟩, hit⟩ := st
  rcases zL.mp hb with z | z
  ·subst z
   exact ⟨_, he, fun v z => by
    have z' : Data.fields _ = Data.cell v := z
    cases z'⟩
  ·have z := zK.mp z
   subst z
   obtain ⟨o, e, c, d⟩ := hit
   exact ⟨o, e, fun v z => by rw [d] at z; cases z⟩
 keep := fun i h h' st k => ⟨⟨_, k e (by simp) _ st.1.choose_spec⟩, st.2.at fun o x => k it (by simp) o x⟩
 item := by
  intro X hP hw hK hc i pins s σ H E I hf st hg
  subst hP hw hK
  obtain ⟨xs, x, hq, hx⟩ := hg
  obtain ⟨its, rv, p, hz⟩ := I.list hq
  obtain ⟨u, hu, ru⟩ := rv.get hx
  obtain ⟨⟨old, he⟩, hit⟩ := st
  have helt : e < s.heap.objs.size := zH he
  have hilt : it < s.heap.objs.size := by obtain ⟨_, x, _⟩ := hit; exact zH x
  refine wpAny_pyNext_enum_item he hit p.isList (x := u) (by simpa using hu) hei fun h' ho hit' hT hsz hk => ?_
  refine ⟨_, rfl, wpAny_letOwnedTupleGo_enum (s := { s with heap := h', toks := s.toks + 1 }) ho fun h2 he2 hs2 => ?_⟩
  have I1 : Inv X pins σ (upd H s.heap.objs.size (.tup [.int (i : Int), x])) { s with heap := s.heap.push { cls := .type "tuple", data := .seq #[.int (i : Int) s.toks, u] }, toks := s.toks + 1 } :=
   I.laid (fun b o e => zB _ e) (zG _) ⟨by rw [PySem.sizeLine_eq]; show 2 ≤ _; lia, [.int (i : Int) s.toks, u], .cons ⟨_, rfl⟩ (.cons ru .nil), IsTup.new s.heap _⟩
  have hfr : ∀ b ∈ [e, it], upd H s.heap.objs.size (.tup [.int (i : Int), x]) b = none := fun b hb => by
   have hlt : b < s.heap.objs.size := by
    rcases zL.mp hb with z | z
    ·rw [z]; exact helt
    ·rw [zK.mp z]; exact hilt
   rw [AL (zX hlt)]
   exact (hf b hb).1
  refine ⟨.ref s.heap.objs.size, upd H s.heap.objs.size (.tup [.int (i : Int), x]), ?_, rfl, ⟨_, x, rfl, I.fresh, rfl, fun ys hy => by rw [I.list_inj hy hq]; exact hx⟩, ⟨⟨_, by simpa using he2⟩, hit'.at fun o y => (hs2.2 it (Ne.symm hei)).trans y⟩, hfr⟩
  refine (show Inv X pins σ (upd H s.heap.objs.size (.tup [.int (i : Int), x])) { ({ s with heap := s.heap.push { cls := .type "tuple", data := .seq #[.int (i : Int) s.toks, u] }, toks := s.toks + 1 } : Shared) with heap := h2, toks := s.toks + 1 } from ?_)
  refine Inv.turnedL (its := [e, it]) I1 (fun b o hb eb => ?_) fun b hb => ⟨hfr b hb, (hf b hb).2⟩
  have hbe : b ≠ e := fun z => hb (by simp [z])
  have hbi : b ≠ it := fun z => hb (by simp [z])
  refine (hs2.2 b hbe).trans ?_
  by_cases hbs : b = s.heap.objs.size
  ·subst hbs
   have : (s.heap.push { cls := .type "tuple", data := .seq #[.int (i : Int) s.toks, u] }).get? s.heap.objs.size = some { cls := .type "tuple", data := .seq #[.int (i : Int) s.toks, u] } := zY _ rfl
   have eb := this.symm.trans eb
   rw [← eb]
   exact hT
  ·exact hk b o hbe hbi ((Heap.get?_push_ne _ _ _ hbs).symm.trans eb)
 done := by
  intro X hP hw hK hc i pins s σ H E I hf st hg
  subst hP hw hK
  obtain ⟨xs, hq, hx⟩ := hg
  obtain ⟨its, rv, p, hz⟩ := I.list hq
  have hl := rv.length
  obtain ⟨⟨old, he⟩, hit⟩ := st
  refine wpAny_pyNext_enum_end (I.ok.hd hc) he hit p.isList (Array.getElem?_eq_none (by simp; lia)) fun h' eb => ⟨rfl, ?_⟩
  obtain ⟨f0, f1, f2, f3, f4, f5⟩ := hf it (by simp)
  exact I.turned (t' := s.toks) (fun b o hb e => eb b o hb e) f0 f1 f3 f4 f5
 self := fun _ _ _ _ _ st h => by
  obtain ⟨⟨old, he⟩, _⟩ := st
  exact wpAny_pyIter_enum he h
section
variable {X : Cx}
noncomputable def JD (K : W.Frag) (ta : TA) : TI := fun σ H R => ta σ H fun vs H1 => ∃ a, vs = [.ref a] ∧ (∃ xs, SqL K H1 a xs) ∧ R (Ite K a) H1
theorem TH {l : Expr} {ta : TA} {p pos tp : Pos} {elts : List Expr} {k : Nat} (hg : Gl X "enumerate") (hm : X.mg "enumerate" = none) (ha : PA X [l] ta) (hs : starEach [l] X.env = [(false, eval l X.env)] := by rfl) :
  PI X (.Tuple elts k tp) (.Call (.Name "enumerate" p) [l] [] pos) (JD X.K ta) := by
 intro pins s σ H R I h
 refine Call_ (Jj I hg hm boot_enumerate (PyProof.Rows.callWith_type1 (thn (ha pos pins s σ H _ I h) fun us s1 zq => ?_) hs rfl))
 obtain ⟨vs, H1, I1, r1, q1⟩ := zq
 obtain ⟨a, e, ⟨xs, hq⟩, q⟩ := q1
 subst e
 cases r1 with
 | cons r rr =>
  cases rr
  cases r
  obtain ⟨its, rv, pl, hz⟩ := I1.list hq
  refine call_enumerate_list pl.isList fun h' he hit hsz hk => ?_
  have I2 : Inv X pins σ H1 { s1 with heap := h' } := I1.kept (t' := s1.toks) hk
  refine wpAny_pyIter_enum he ?_
  refine ⟨_, [s1.heap.objs.size + 1, s1.heap.objs.size], _, _, H1, rfl, I2, UJ a _ _ (Nat.succ_ne_self _), ⟨⟨_, by simpa using he⟩, hit⟩, fun b hb => ?_, q⟩
  have hb' : s1.heap.objs.size ≤ b := by
   rcases zL.mp hb with z | z
   ·rw [z]; exact Nat.le_succ _
   ·rw [zK.mp z]; exact zG _
  exact I1.fpOk hb' (I1.hok.fresh hb')
theorem Zt : bootBuiltins "all" = some (.builtin "all") := by decide +kernel
noncomputable def OI (K : W.Frag) : List V → Hp → VK → Prop := fun xs H Q => ∃ a, xs = [.ref a] ∧ ∃ ys : List Bool, SqL K H a (ys.map V.bl) ∧ Q (.bl (ys.all id)) H
theorem VB (hc : X.calm = true) : Bl X (.builtin "all") (OI X.K) := by
 intro pins s σ H xs us Q I r h
 obtain ⟨a, rfl, ys, hq, q⟩ := h
 obtain ⟨u, rfl, rx⟩ := vals1 r
 cases rx
 obtain ⟨its, r', pl, hz⟩ := I.list hq
 have hlen := r'.length
 rw [z5] at hlen
 have hlt : a < s.heap.objs.size := by obtain ⟨o, n, e, _⟩ := id pl; exact zH e
 refine call_all_walk (wpAny_pyIter_list pl.isList ?_)
 refine ⟨s.heap.objs.size, _, _, _, _, _, fun i => ys.getD i true, rfl, Walks.list (A := X.A.in1) (I.ok.hd hc) _ a (zX hlt) its.toArray, ⟨⟨_, zY _ rfl, rfl, rfl⟩, pl.isList.at fun o e => zB _ e⟩, ?_, fun h' tk hk => ?_⟩
 ·intro i v s Q E hP hQ
  have hv : its[i]? = some v := by simpa using hP
  obtain ⟨hi, _⟩ := zA.mp hv
  obtain ⟨u, e1, e2⟩ := r'.get (i := i) (x := V.bl (ys.getD i true)) (by rw [zJ, z4 (by lia), zI, z4 (by lia)]; rfl)
  have e3 : v = u := zN (hv.symm.trans e1)
  have e2 : u = Value.bool (ys.getD i true) := e2
  rw [e3, e2]
  exact wpAny_truthy_bool hQ
 ·have I2 : Inv X pins σ H { s with heap := h', toks := tk } := I.kept fun b o e => hk b o (fun z => by
   rw [zK.mp z] at e
   exact absurd (zH e) (zr _)) (zB _ e)
  refine ⟨.bl (ys.all id), H, I2, ?_, q⟩
  show Value.bool _ = Value.bool _
  congr 1
  rw [show its.toArray.size = ys.length by simp [hlen], Bool.eq_iff_iff]
  simp only [List.all_eq_true, List.mem_range, id]
  constructor
  ·intro hh b hb
   obtain ⟨i, hi, rfl⟩ := List.getElem_of_mem hb
   have := hh i hi
   rwa [zI, z4 hi] at this
  ·intro hh i hi
   rw [zI, z4 hi]
   exact hh _ (zV hi)
end
theorem RS {K : W.Frag} {a : Addr} {xs : List V} {g : TG} {tb : TS} {D : Gn} {σ : St} {H : Hp} (Pv : Nat → St → Hp → Prop) (h0 : Pv 0 σ H) (hl : ∀ i σ H, i ≤ xs.length → Pv i σ H → SqL K H a xs)
  (hs : ∀ i x σ H p H', xs[i]? = some x → Pv i σ H → H p = none → AI H H' → H' p = some (.tup [.int (i : Int), x]) → g (.ref p) σ H' fun σ2 H2 => tb { D with nx := Pv (i + 1), ct := Pv (i + 1), bk := D.nx } σ2 H2) (hd : ∀ σ H, Pv xs.length σ H → D.nx σ H) :
  ∃ W : Nat → Nat → St → Hp → Prop, (∃ m, W 0 m σ H) ∧ ∀ i m σ H, W i m σ H →
   ((Ite K a).stop i H ∧ D.nx σ H) ∨ ((Ite K a).go i H ∧ ∃ N : St → Hp → Prop, (∀ σ' H', N σ' H' → ∃ m', m' < m ∧ W (i + 1) m' σ' H') ∧ ∀ x H', (Ite K a).yld i H x H' → g x σ H' fun σ2 H2 => tb { D with nx := N, ct := N, bk := D.nx } σ2 H2) := by
 refine ⟨fun i m σ H => m = xs.length - i ∧ i ≤ xs.length ∧ Pv i σ H, ⟨xs.length, by simp, zi _, h0⟩, ?_⟩
 rintro i m σ H ⟨rfl, hi, p⟩
 have q := hl i σ H hi p
 by_cases hlt : i < xs.length
 ·refine .inr ⟨⟨xs, xs[i], q, by simp [hlt]⟩, Pv (i + 1), fun σ' H' p' => ⟨xs.length - (i + 1), by lia, rfl, hlt, p'⟩, fun x H' y => ?_⟩
  obtain ⟨pp, z, rfl, hn, rfl, y⟩ := y
  exact hs i z σ _ _ _ (y xs q) p hn (Aw hn) AN
 ·have e : i = xs.length := by lia
  subst e
  exact .inl ⟨⟨xs, q, zG _⟩, hd σ H p⟩
end L2
namespace TG
open PySem L2
theorem Vv {d r : Int} (hd : 0 ≤ d) (hr : 0 < r) : Int.gcd r (d.fmod r) = Int.gcd d r := by
 rw [Int.fmod_eq_emod_of_nonneg d (qB hr)]
 obtain ⟨n, rfl⟩ := Int.eq_ofNat_of_zero_le hd
 obtain ⟨m, rfl⟩ := Int.eq_ofNat_of_zero_le (qB hr)
 show Nat.gcd m (((n % m : Nat) : Int)).natAbs = Nat.gcd n m
 rw [Int.natAbs_natCast, Nat.gcd_comm n m, Nat.gcd_rec m n, Nat.gcd_comm]
theorem WR {d r : Int} (hr : 0 < r) : 0 ≤ d.fmod r ∧ d.fmod r < r := ⟨Int.fmod_nonneg_of_pos d hr, Int.fmod_lt_of_pos d hr⟩
theorem Ua {d : Int} (hd : 0 ≤ d) : ((Int.gcd d 0 : Nat) : Int) = d := by
 rw [Int.gcd_zero_right]; lia
structure FD (t b x y : Int) : Prop where
 ex : ∃ g : Int, g ≠ 0 ∧ t = g * x ∧ b = g * y
 pos : 0 < y
 one : Int.gcd x y = 1
theorem FD.eq {t b x y : Int} (h : FD t b x y) : t * y = b * x := by
 obtain ⟨g, _, rfl, rfl⟩ := h.ex
 rw [Int.mul_assoc, Int.mul_assoc, Int.mul_comm x y]
theorem JR {g x : Int} (hg : g ≠ 0) : x.natAbs ≤ (g * x).natAbs := by
 rw [Int.natAbs_mul]
 exact Nat.le_mul_of_pos_left _ (by lia)
theorem FD.absx {t b x y : Int} (h : FD t b x y) : x.natAbs ≤ t.natAbs := by
 obtain ⟨g, hg, rfl, rfl⟩ := h.ex
 exact JR hg
theorem FD.absy {t b x y : Int} (h : FD t b x y) : y.natAbs ≤ b.natAbs := by
 obtain ⟨g, hg, rfl, rfl⟩ := h.ex
 exact JR hg
theorem WO (t b : Int) : Int.gcd (if t < 0 then -t else t) (if b < 0 then -b else b) = Int.gcd t b := by
 split <;> split <;> simp [Int.gcd_neg, Int.neg_gcd]
theorem Yu {t b : Int} (hb : b ≠ 0) {d : Int} (hd : d = if b < 0 then -((Int.gcd t b : Nat) : Int) else ((Int.gcd t b : Nat) : Int)) : FD t b (t.fdiv d) (b.fdiv d) ∧ d ≠ 0 := by
 have hg : 0 < Int.gcd t b := Int.gcd_pos_of_ne_zero_right t hb
 have hd0 : d ≠ 0 := by rw [hd]; split <;> lia
 have habs : d.natAbs = Int.gcd t b := by rw [hd]; split <;> lia
 have h1 : d ∣ t := by
  rw [← Int.natAbs_dvd, habs]; exact Int.gcd_dvd_left ..
 have h2 : d ∣ b := by
  rw [← Int.natAbs_dvd, habs]; exact Int.gcd_dvd_right ..
 obtain ⟨x, hx⟩ := h1
 obtain ⟨y, hy⟩ := h2
 have ex : t.fdiv d = x := by rw [hx, Int.mul_fdiv_cancel_left _ hd0]
 have ey : b.fdiv d = y := by rw [hy, Int.mul_fdiv_cancel_left _ hd0]
 rw [ex, ey]
 refine ⟨⟨⟨d, hd0, hx, hy⟩, ?_, ?_⟩, hd0⟩
 ·rcases Int.lt_trichotomy y 0 with h | h | h
  ·exfalso
   by_cases hbn : b < 0
   ·rw [if_pos hbn] at hd
    have : 0 < d * y := Int.mul_pos_of_neg_of_neg (by lia) h
    lia
   ·rw [if_neg hbn] at hd
    have : d * y < 0 := Int.mul_neg_of_pos_of_neg (by lia) h
    lia
  ·rw [h, Int.mul_zero] at hy; exact absurd hy hb
  ·exact h
 ·have e : Int.gcd t b = d.natAbs * Int.gcd x y := by
   conv => lhs; rw [hx, hy]
   exact Int.gcd_mul_left ..
  rw [habs] at e
  have e2 : Int.gcd t b * 1 = Int.gcd t b * Int.gcd x y := by rw [Nat.mul_one]; exact e
  exact (Nat.eq_of_mul_eq_mul_left hg e2).symm
theorem WV {t u x y f : Int} (hy : 0 < y) (hu : 0 < u) (E : t * y = u * x) : f * y ≤ x ↔ f * u ≤ t := by
 constructor
 ·intro h
  have h1 := zk h (qB hu)
  rw [← E] at h1
  have h2 : (f * u) * y ≤ t * y := by
   have e : (f * u) * y = u * (f * y) := by grind
   rw [e]; exact h1
  exact Int.le_of_mul_le_mul_right h2 hy
 ·intro h
  have h1 := zO h (qB hy)
  rw [E] at h1
  have h2 : u * (f * y) ≤ u * x := by
   have e : u * (f * y) = (f * u) * y := by grind
   rw [e]; exact h1
  exact zj h2 hu
theorem WL {t u x y f : Int} (hy : 0 < y) (hu : 0 < u) (E : t * y = u * x) : x ≤ f * y ↔ t ≤ f * u := by
 constructor
 ·intro h
  have h1 := zk h (qB hu)
  rw [← E] at h1
  have h2 : t * y ≤ (f * u) * y := by
   have e : (f * u) * y = u * (f * y) := by grind
   rw [e]; exact h1
  exact Int.le_of_mul_le_mul_right h2 hy
 ·intro h
  have h1 := zO h (qB hy)
  rw [E] at h1
  have h2 : u * x ≤ u * (f * y) := by
   have e : u * (f * y) = (f * u) * y := by grind
   rw [e]; exact h1
  exact zj h2 hu
structure G where
 p : Int
 f : Int
 h : Int
noncomputable abbrev G.vs (g : G) : List V := [.int g.p, .int g.f, .int g.h]
structure OkG (g : G) : Prop where
 p0 : -1000 ≤ g.p
 p1 : g.p ≤ 1000
 f0 : -1000 ≤ g.f
 fh : g.f ≤ g.h
 h1 : g.h ≤ 1000
noncomputable def Ak (H : Hp) (as : List Addr) (gs : List G) : Prop := Paired (fun a g => H a = some (.tup (G.vs g))) as gs
theorem Ak.same {H H' : Hp} {as : List Addr} {gs : List G} (h : Ak H as gs) (s : AI H H') : Ak H' as gs := by
 unfold Ak at *
 induction h with
 | nil => exact .nil
 | cons e _ ih => exact .cons (s _ _ e) ih
theorem Ak.upd {H : Hp} {l : Addr} {o u : HO} {as : List Addr} {gs : List G} (h : Ak H as gs) (hl : H l = some o) (hm : ∀ ys, o ≠ .tup ys) : Ak (L2.upd H l u) as gs := by
 unfold Ak at *
 induction h with
 | nil => exact .nil
 | cons e _ ih => exact .cons (WM e hl hm) ih
theorem Ak.snoc {H : Hp} {as : List Addr} {gs : List G} {a : Addr} {g : G} (h : Ak H as gs) (e : H a = some (.tup (G.vs g))) : Ak H (as ++ [a]) (gs ++ [g]) := Paired.snoc h e
theorem Ak.len {H : Hp} {as : List Addr} {gs : List G} (h : Ak H as gs) : as.length = gs.length := Paired.length h
theorem A2 {xs : List Int} {i : Int} (h0 : 0 ≤ i) (h1 : i < xs.length) : atI (xs.map V.int) i = some (V.int (xs.getD i.toNat 0)) := by
 obtain ⟨n, rfl⟩ := Int.eq_ofNat_of_zero_le h0
 have hn : n < xs.length := by lia
 refine Dp ?_
 rw [zJ, z4 hn, Int.toNat_natCast, zI, z4 hn]; rfl
theorem IU {α : Type} [DecidableEq α] : ∀ {xs ys : List α}, xs.Nodup → (∀ x ∈ xs, x ∈ ys) → xs.length ≤ ys.length
 | [], _, _, _ => zi _
 | x :: xs, ys, hn, hs => by
  obtain ⟨h1, h2⟩ := qL.mp hn
  have hx := hs x zR
  have ih := IU (ys := ys.erase x) h2 fun y hy => (List.mem_erase_of_ne (fun (e : y = x) => h1 (by rw [← e]; exact hy))).mpr (hs y (zD _ hy))
  have := List.length_erase_of_mem hx
  have hp : 0 < ys.length := List.length_pos_of_mem hx
  rw [zE]
  lia
theorem RI {near span o : Int} {used : List Int} (hk : (used.length : Int) < span) (h : ∀ t : Nat, t ≤ used.length → near + (o + t) % span ∈ used) : False := by
 have hnd : ((List.range (used.length + 1)).map fun t : Nat => near + (o + t) % span).Nodup := by
  refine List.pairwise_iff_getElem.mpr fun a b ha hb hab => ?_
  rw [z5, List.length_range] at ha hb
  rw [List.getElem_map, List.getElem_map, List.getElem_range, List.getElem_range]
  intro e
  have e1 : (o + (a : Int)) % span = (o + (b : Int)) % span := by lia
  have e2 := Int.emod_emod_of_dvd (o + (b : Int)) (Int.dvd_refl span)
  have d : span ∣ (o + (b : Int)) - (o + (a : Int)) := Int.dvd_of_emod_eq_zero (Int.emod_eq_emod_iff_emod_sub_eq_zero.mp e1.symm)
  have e3 : (o + (b : Int)) - (o + (a : Int)) = (b : Int) - a := by lia
  rw [e3] at d
  have := Int.le_of_dvd (by lia) d
  lia
 have hl := IU (ys := used) hnd fun x hx => by
  obtain ⟨t, ht, rfl⟩ := zf.mp hx
  exact h t (by have := List.mem_range.mp ht; lia)
 rw [z5, List.length_range] at hl
 lia
noncomputable def B6 (a b c : G) : Prop := a.h * (c.p - b.p) + c.h * (b.p - a.p) < b.f * (c.p - a.p)
noncomputable def CC (a b c : G) : Prop := b.h * (c.p - a.p) < a.f * (c.p - b.p) + c.f * (b.p - a.p)
instance (a b c : G) : Decidable (B6 a b c) := by unfold B6; exact inferInstance
instance (a b c : G) : Decidable (CC a b c) := by unfold CC; exact inferInstance
noncomputable def NP (a b c : G) : Prop := B6 a b c ∨ CC a b c
instance (a b c : G) : Decidable (NP a b c) := by unfold NP; exact inferInstance
noncomputable def WW (a b c : G) : Str := if B6 a b c then "foot" else if CC a b c then "head" else ""
theorem Ak.zip {H : Hp} {as : List Addr} {gs : List G} (h : Ak H as gs) : ∃ zs : List (Addr × List Int), as = zs.map (·.1) ∧ zs.map (·.2) = gs.map (fun g => [g.p, g.f, g.h]) ∧ ∀ z ∈ zs, z.2 ≠ [] ∧ H z.1 = some (.tup (z.2.map V.int)) := by
 unfold Ak at h
 induction h with
 | nil => exact ⟨[], rfl, rfl, fun _ h => absurd h (by simp)⟩
 | @cons a g as gs e _ ih =>
  obtain ⟨zs, h1, h2, h3⟩ := ih
  refine ⟨(a, [g.p, g.f, g.h]) :: zs, by rw [h1]; rfl, by rw [zZ, h2]; rfl, fun z hz => ?_⟩
  rcases zL.mp hz with rfl | hz
  ·exact ⟨by simp, e⟩
  ·exact h3 z hz
theorem Ak.of_zip {H : Hp} : ∀ {zs : List (Addr × List Int)} {gs : List G}, zs.map (·.2) = gs.map (fun g => [g.p, g.f, g.h]) → (∀ z ∈ zs, H z.1 = some (.tup (z.2.map V.int))) → Ak H (zs.map (·.1)) gs
 | [], [], _, _ => .nil
 | [], _ :: _, e, _ => by cases e
 | _ :: _, [], e, _ => by cases e
 | z :: zs, g :: gs, e, h => by
  rw [zZ, zZ, zy] at e
  refine .cons ?_ (Ak.of_zip e.2 fun y hy => h y (zD _ hy))
  have := h z zR
  rw [e.1] at this
  exact this
noncomputable def toG (t : List Int) : G := ⟨t.getD 0 0, t.getD 1 0, t.getD 2 0⟩
theorem Wz (gs : List G) : (gs.map fun g => [g.p, g.f, g.h]).map toG = gs := by
 rw [qN]
 have : (toG ∘ fun g : G => [g.p, g.f, g.h]) = id := by funext g; rfl
 rw [this, List.map_id]
theorem lex_p {g g' : G} (hne : g.p ≠ g'.p) (h : HT.lexLt [g.p, g.f, g.h] [g'.p, g'.f, g'.h] = true) : g.p < g'.p := by
 rw [HT.lexLt_cons, if_neg hne] at h
 exact z6 h
noncomputable def Asc (gs : List G) : Prop := gs.Pairwise fun a b => a.p < b.p
section
variable {X : Cx}
noncomputable def Ex (K : W.Frag) : List V → Hp → VK → Prop := fun xs H Q => ∃ l, xs = [.ref l] ∧ ∃ (as : List Addr) (gs : List G), SqL K H l (as.map V.ref) ∧ Ak H as gs ∧ (gs.map G.p).Nodup ∧ gs.length < 64 ∧
 ∀ (D : Addr) (H' : Hp) (as' : List Addr) (gs' : List G), H D = none → AI H H' → H' D = some (.lst (as'.map V.ref)) → Ak H' as' gs' → gs'.Perm gs → Asc gs' → Q (.ref D) H'
theorem Bj : Bl X (.builtin "sorted") (Ex X.K) := P7.weak fun xs H Q ⟨l, e, as, gs, hl, ga, nd, h64, q⟩ => by
 obtain ⟨zs, h1, h2, h3⟩ := ga.zip
 have hlen : zs.length = gs.length := by
  have := congrArg List.length h2
  simpa using this
 refine ⟨l, e, zs, ?_, fun z hz => ⟨(h3 z hz).1, SqT.of (h3 z hz).2⟩, ?_, by lia, fun D H' zs' hD hs hat hp hsrt => ?_⟩
 ·rw [h1, qN] at hl
  exact hl
 ·rw [h2]
  refine qC.mpr ((qC.mp nd).imp fun {a b} h z => h ?_)
  simp at z
  exact z.1
 ·have hm : (zs'.map (·.2)).Perm (gs.map fun g => [g.p, g.f, g.h]) := by rw [← h2]; exact hp.map _
  have hg : ((zs'.map (·.2)).map toG).Perm gs := by
   have := hm.map toG
   rw [Wz] at this
   exact this
  have hback : zs'.map (·.2) = ((zs'.map (·.2)).map toG).map fun g => [g.p, g.f, g.h] := by
   rw [qN]
   conv => lhs; rw [← List.map_id (zs'.map (·.2))]
   refine List.map_congr_left fun t ht => ?_
   obtain ⟨g, _, rfl⟩ := zf.mp (hm.mem_iff.mp ht)
   rfl
  refine q D H' (zs'.map (·.1)) ((zs'.map (·.2)).map toG) hD hs ?_ ?_ hg ?_
  ·rw [hat, qN]; rfl
  ·exact Ak.of_zip hback fun z hz => hs.get (h3 z (hp.mem_iff.mp hz)).2
  ·have ndp : ((((zs'.map (·.2)).map toG)).map G.p).Nodup := ((hg.map G.p).nodup_iff).mpr nd
   have hsr : (((zs'.map (·.2)).map toG)).Pairwise fun a b => HT.lexLt [a.p, a.f, a.h] [b.p, b.f, b.h] = true := by
    have : ((((zs'.map (·.2)).map toG)).map fun g : G => [g.p, g.f, g.h]).Pairwise fun a b => HT.lexLt a b = true := by
     rw [← hback]
     exact qC.mpr hsrt
    exact qC.mp this
   have hne := qC.mp ndp
   exact (hsr.and hne).imp fun {a b} h => lex_p h.2 h.1
end
noncomputable def LG (sg : List G) (i j k : Nat) : Prop := i < j ∧ j < k ∧ ∃ a b c, sg[i]? = some a ∧ sg[j]? = some b ∧ sg[k]? = some c ∧ NP a b c
noncomputable def Be (sg : List G) : Prop := ∀ i j k, ¬ LG sg i j k
noncomputable def Ax (sg : List G) (i j k : Nat) : Prop := ∀ i' j' k', LG sg i' j' k' → i < i' ∨ (i = i' ∧ (j < j' ∨ (j = j' ∧ k ≤ k')))
noncomputable def MW (sg : List G) (i j k : Nat) : Prop := LG sg i j k ∧ Ax sg i j k
theorem MW.uniq {sg : List G} {i j k i' j' k' : Nat} (h : MW sg i j k) (h' : MW sg i' j' k') : i = i' ∧ j = j' ∧ k = k' := by
 have a := h.2 _ _ _ h'.1
 have b := h'.2 _ _ _ h.1
 lia
inductive By (gs : List G) (t : List Int) : Prop where
 | no (sg : List G) (hp : sg.Perm gs) (ha : Asc sg) (hn : Be sg) (ht : t = [])
 | yes (sg : List G) (hp : sg.Perm gs) (ha : Asc sg) (i j k : Nat) (a b c : G) (hf : MW sg i j k) (h1 : sg[i]? = some a) (h2 : sg[j]? = some b) (h3 : sg[k]? = some c) (ht : t = [a.p, b.p, c.p])
theorem Bg : ∀ {xs ys : List G}, Asc xs → Asc ys → xs.Perm ys → xs = ys
 | [], ys, _, _, h => (List.nil_perm.mp h).symm
 | x :: xs, [], _, _, h => absurd h (by intro z; have := z.length_eq; simp at this)
 | x :: xs, y :: ys, h1, h2, h => by
  obtain ⟨a1, a2⟩ := List.pairwise_cons.mp h1
  obtain ⟨b1, b2⟩ := List.pairwise_cons.mp h2
  have e : x = y := by
   have hx : x ∈ y :: ys := h.mem_iff.mp zR
   have hy : y ∈ x :: xs := h.mem_iff.mpr zR
   rcases zL.mp hx with e | hx
   ·exact e
   ·rcases zL.mp hy with e | hy
    ·exact e.symm
    ·have := a1 y hy
     have := b1 x hx
     lia
  subst e
  rw [Bg a2 b2 ((List.perm_cons x).mp h)]
theorem By.uniq {gs : List G} {t t' : List Int} (h : By gs t) (h' : By gs t') : t = t' := by
 cases h with
 | no sg hp ha hn ht =>
  cases h' with
  | no sg' hp' ha' hn' ht' => rw [ht, ht']
  | yes sg' hp' ha' i j k a b c hf h1 h2 h3 ht' =>
   have e := Bg ha ha' (hp.trans hp'.symm)
   subst e
   exact absurd hf.1 (hn i j k)
 | yes sg hp ha i j k a b c hf h1 h2 h3 ht =>
  cases h' with
  | no sg' hp' ha' hn' ht' =>
   have e := Bg ha ha' (hp.trans hp'.symm)
   subst e
   exact absurd hf.1 (hn' i j k)
  | yes sg' hp' ha' i' j' k' a' b' c' hf' h1' h2' h3' ht' =>
   have e := Bg ha ha' (hp.trans hp'.symm)
   subst e
   obtain ⟨e1, e2, e3⟩ := hf.uniq hf'
   subst e1 e2 e3
   rw [h1] at h1'; rw [h2] at h2'; rw [h3] at h3'
   cases h1'; cases h2'; cases h3'
   rw [ht, ht']
theorem By.perm {gs gs' : List G} {t : List Int} (h : By gs t) (hp : gs.Perm gs') : By gs' t := by
 cases h with
 | no sg hp' ha hn ht => exact .no sg (hp'.trans hp) ha hn ht
 | yes sg hp' ha i j k a b c hf h1 h2 h3 ht => exact .yes sg (hp'.trans hp) ha i j k a b c hf h1 h2 h3 ht
theorem Ak.get {H : Hp} {as : List Addr} {gs : List G} (h : Ak H as gs) {i : Nat} {g : G} (hg : gs[i]? = some g) : ∃ a, as[i]? = some a ∧ H a = some (.tup (G.vs g)) := by
 unfold Ak at h
 induction h generalizing i with
 | nil => simp at hg
 | cons e _ ih =>
  cases i with
  | zero => simp at hg; subst hg; exact ⟨_, rfl, e⟩
  | succ i => exact ih (by simpa using hg)
theorem Bx {as : List Addr} {i : Nat} {a : Addr} (h : as[i]? = some a) : atI (as.map V.ref) (i : Int) = some (V.ref a) := Dp (by rw [zJ, h]; rfl)
theorem LG.lt {sg : List G} {i j k : Nat} (h : LG sg i j k) : k < sg.length := by
 obtain ⟨_, _, a, b, c, _, _, h3, _⟩ := h
 exact (zA.mp h3).1
theorem V8 (sg : List G) : Ax sg 0 0 0 := fun i j k h => by
 have := h.1
 lia
theorem Zn {sg : List G} {i : Nat} (h : Ax sg i 0 0) : Ax sg i (i + 1) 0 := fun i' j' k' hb => by
 have h1 := h _ _ _ hb
 have h2 := hb.1
 lia
theorem na_in {sg : List G} {i j : Nat} (h : Ax sg i j 0) : Ax sg i j (j + 1) := fun i' j' k' hb => by
 have h1 := h _ _ _ hb
 have h2 := hb.2.1
 lia
theorem UL {sg : List G} {i j k : Nat} (hk : sg.length ≤ k) (h : Ax sg i j k) : Ax sg i (j + 1) 0 := fun i' j' k' hb => by
 have h1 := h _ _ _ hb
 have h2 := hb.lt
 lia
theorem Rv {sg : List G} {i j : Nat} (hj : sg.length ≤ j) (h : Ax sg i j 0) : Ax sg (i + 1) 0 0 := fun i' j' k' hb => by
 have h1 := h _ _ _ hb
 have h2 := hb.lt
 have h3 := hb.2.1
 have h4 := hb.1
 lia
theorem Wt {sg : List G} {i j k : Nat} (h : Ax sg i j k) (hn : ¬ LG sg i j k) : Ax sg i j (k + 1) := fun i' j' k' hb => by
 have h1 := h _ _ _ hb
 by_cases e : i = i' ∧ j = j' ∧ k = k'
 ·obtain ⟨rfl, rfl, rfl⟩ := e
  exact absurd hb hn
 ·lia
theorem na_no {sg : List G} (h : Ax sg sg.length 0 0) : Be sg := fun i j k hb => by
 have h1 := h _ _ _ hb
 have h2 := hb.lt
 have h3 := hb.1
 have h4 := hb.2.1
 lia
noncomputable def Pas (a b c d pl f h : Int) : Prop := f * (b * d) ≤ a * d + pl * c * b ∧ a * d + pl * c * b ≤ h * (b * d)
instance (a b c d pl f h : Int) : Decidable (Pas a b c d pl f h) := by unfold Pas; exact inferInstance
structure Thr where
 a : Int
 b : Int
 c : Int
 d : Int
noncomputable abbrev Thr.vs (t : Thr) : List V := [.int t.a, .int t.b, .int t.c, .int t.d]
noncomputable abbrev Thr.pas (t : Thr) (g : G) : Prop := Pas t.a t.b t.c t.d g.p g.f g.h
noncomputable abbrev Thr.gap (t : Thr) (p h : Int) : Int := t.a * t.d + t.c * p * t.b - h * t.b * t.d
structure OkT (t : Thr) : Prop where
 a1 : t.a.natAbs ≤ 999999999
 b1 : t.b.natAbs ≤ 999999999
 c1 : t.c.natAbs ≤ 999999999
 d1 : t.d.natAbs ≤ 999999999
 b0 : 0 < t.b
 d0 : 0 < t.d
 g1 : Int.gcd t.a t.b = 1
 g2 : Int.gcd t.c t.d = 1
inductive BarAt (H : Hp) (D : Addr) (gs : List G) : Prop where
 | mk (q : Addr) (t : List Int) (e : H D = some (.tup [.str "bar", .ref q])) (e2 : H q = some (.tup (t.map V.int))) (ne : t ≠ []) (f : By gs t)
theorem By.len3 {gs : List G} {t : List Int} (h : By gs t) (ne : t ≠ []) : t.length = 3 := by
 rcases h with ⟨_, _, _, _, rfl⟩ | ⟨_, _, _, _, _, _, _, _, _, _, _, _, _, rfl⟩
 ·exact absurd rfl ne
 ·rfl
noncomputable def F9 (u w m : Int) (g : G) : Prop := g.f * m ≤ u + w * g.p ∧ u + w * g.p ≤ g.h * m
theorem D5 {t : Thr} {g : G} : t.pas g ↔ F9 (t.a * t.d) (t.c * t.b) (t.b * t.d) g := by
 show Pas _ _ _ _ _ _ _ ↔ _
 unfold Pas F9
 rw [show g.p * t.c * t.b = t.c * t.b * g.p by grind]
theorem HY {a b c : G} {u w m : Int} (h1 : a.p < b.p) (h2 : b.p < c.p) (hm : 0 < m) (hb : NP a b c) (la : F9 u w m a) (lb : F9 u w m b) (lc : F9 u w m c) : False := by
 obtain ⟨a1, a2⟩ := la
 obtain ⟨b1, b2⟩ := lb
 obtain ⟨c1, c2⟩ := lc
 have e : (u + w * b.p) * (c.p - a.p) = (u + w * a.p) * (c.p - b.p) + (u + w * c.p) * (b.p - a.p) := by grind
 rcases hb with hb | hb
 ·unfold B6 at hb
  have k1 := Int.mul_lt_mul_of_pos_right hb hm
  have k2 := zO b1 (show 0 ≤ c.p - a.p by lia)
  have k3 := zO a2 (show 0 ≤ c.p - b.p by lia)
  have k4 := zO c2 (show 0 ≤ b.p - a.p by lia)
  rw [e] at k2
  have e1 : (a.h * (c.p - b.p) + c.h * (b.p - a.p)) * m = a.h * m * (c.p - b.p) + c.h * m * (b.p - a.p) := by grind
  have e2 : b.f * (c.p - a.p) * m = b.f * m * (c.p - a.p) := by grind
  rw [e1, e2] at k1
  lia
 ·unfold CC at hb
  have k1 := Int.mul_lt_mul_of_pos_right hb hm
  have k2 := zO b2 (show 0 ≤ c.p - a.p by lia)
  have k3 := zO a1 (show 0 ≤ c.p - b.p by lia)
  have k4 := zO c1 (show 0 ≤ b.p - a.p by lia)
  rw [e] at k2
  have e1 : (a.f * (c.p - b.p) + c.f * (b.p - a.p)) * m = a.f * m * (c.p - b.p) + c.f * m * (b.p - a.p) := by grind
  have e2 : b.h * (c.p - a.p) * m = b.h * m * (c.p - a.p) := by grind
  rw [e1, e2] at k1
  lia
theorem Bi {gs : List G} (ha : Asc gs) {i j : Nat} {x y : G} (hx : gs[i]? = some x) (hy : gs[j]? = some y) (hij : i < j) : x.p < y.p := by
 obtain ⟨h1, rfl⟩ := zA.mp hx
 obtain ⟨h2, rfl⟩ := zA.mp hy
 exact List.pairwise_iff_getElem.mp ha i j h1 h2 hij
theorem By.line {gs : List G} {t : List Int} (h : By gs t) {u w m : Int} (hm : 0 < m) (hl : ∀ g ∈ gs, F9 u w m g) : t = [] := by
 rcases h with ⟨_, _, _, _, rfl⟩ | ⟨sg, hp, ha, i, j, k, a, b, c, hf, h1, h2, h3, _⟩
 ·rfl
 ·exfalso
  obtain ⟨⟨l1, l2, a', b', c', f1, f2, f3, hb⟩, _⟩ := hf
  rw [h1] at f1
  rw [h2] at f2
  rw [h3] at f3
  cases f1
  cases f2
  cases f3
  have mem : ∀ {i : Nat} {g : G}, sg[i]? = some g → g ∈ gs := fun e => hp.mem_iff.mp (zU e)
  exact HY (Bi ha h1 h2 l1) (Bi ha h2 h3 l2) hm hb (hl _ (mem h1)) (hl _ (mem h2)) (hl _ (mem h3))
theorem R6 {t : Thr} {x y : G} {u w m : Int} (ot : OkT t) (hm : 0 < m) (lt : x.p < y.p) (tx : t.gap x.p x.f = 0) (ty : t.gap y.p y.h = 0) (lx : F9 u w m x) (ly : F9 u w m y) : w * t.d ≤ t.c * m := by
 have hb := ot.b0
 have hd := ot.d0
 have e0 : t.b * (t.c * (y.p - x.p)) = t.b * ((y.h - x.f) * t.d) := by
  have : t.gap y.p y.h - t.gap x.p x.f = t.b * (t.c * (y.p - x.p)) - t.b * ((y.h - x.f) * t.d) := by unfold Thr.gap; grind
  omega
 have e1 : t.c * (y.p - x.p) = (y.h - x.f) * t.d := Int.eq_of_mul_eq_mul_left (by lia) e0
 have k1 : w * (y.p - x.p) ≤ (y.h - x.f) * m := by
  have := lx.1
  have := ly.2
  have e : w * (y.p - x.p) = (u + w * y.p) - (u + w * x.p) := by grind
  have e' : (y.h - x.f) * m = y.h * m - x.f * m := by grind
  lia
 have k2 := zO k1 (show 0 ≤ t.d by lia)
 have e2 : (y.h - x.f) * m * t.d = (y.h - x.f) * t.d * m := by grind
 rw [e2, ← e1] at k2
 have k3 : w * t.d * (y.p - x.p) ≤ t.c * m * (y.p - x.p) := by
  rw [show w * t.d * (y.p - x.p) = w * (y.p - x.p) * t.d by grind, show t.c * m * (y.p - x.p) = t.c * (y.p - x.p) * m by grind]
  exact k2
 exact Int.le_of_mul_le_mul_right k3 (by lia)
theorem NL {gs : List G} (ok : ∀ g ∈ gs, OkG g) {x y : G} (hx : x ∈ gs) (hy : y ∈ gs) (lt : x.p < y.p)
  (least : ∀ x' ∈ gs, ∀ y' ∈ gs, x'.p < y'.p → (y.h - x.f) * (y'.p - x'.p) ≤ (y'.h - x'.f) * (y.p - x.p))
  (uniq : ∀ g ∈ gs, ∀ g' ∈ gs, g.p = g'.p → g = g')
  (nb1 : ∀ m ∈ gs, m.p < x.p → ¬ B6 m x y) (nb2 : ∀ m ∈ gs, y.p < m.p → ¬ CC x y m) :
  ∀ g ∈ gs, F9 (x.f * y.p - y.h * x.p) (y.h - x.f) (y.p - x.p) g := by
 intro g hg
 have og := ok g hg
 have ox := ok x hx
 have oy := ok y hy
 have gfh := og.fh
 unfold F9
 have eL : x.f * y.p - y.h * x.p + (y.h - x.f) * g.p = x.f * (y.p - g.p) + y.h * (g.p - x.p) := by grind
 rw [eL]
 rcases Int.lt_trichotomy g.p x.p with h | h | h
 ·have k1 := least g hg y hy (by lia)
  refine ⟨by grind, ?_⟩
  have k2 := nb1 g hg h
  unfold B6 at k2
  rw [Int.not_lt] at k2
  grind
 ·have := uniq g hg x hx h
  subst this
  refine ⟨by grind, ?_⟩
  have := zO gfh (show 0 ≤ y.p - g.p by lia)
  grind
 ·rcases Int.lt_trichotomy g.p y.p with h' | h' | h'
  ·have k1 := least g hg y hy h'
   have k2 := least x hx g hg h
   exact ⟨by grind, by grind⟩
  ·have := uniq g hg y hy h'
   subst this
   refine ⟨?_, by grind⟩
   have := zO gfh (show 0 ≤ g.p - x.p by lia)
   grind
  ·have k1 := least x hx g hg (by lia)
   refine ⟨?_, by grind⟩
   have k2 := nb2 g hg h'
   unfold CC at k2
   rw [Int.not_lt] at k2
   grind
theorem Ak.fresh {H : Hp} {as : List Addr} {gs : List G} {D : Addr} {o : HO} (h : Ak H as gs) (hD : ∀ ys, H D ≠ some (.tup ys)) : Ak (L2.upd H D o) as gs := by
 induction h with
 | nil => exact .nil
 | cons e _ ih =>
  refine .cons ?_ ih
  rw [AL (fun z => hD _ (z ▸ e))]
  exact e
theorem Qp {K : W.Frag} {a : Addr} {as : List Addr} {gs : List G} {tc : TT} {caps : St} {D : Addr} {H1 : Hp} {Q : Hp → Prop} (P : G → Bool) (hl : SqL K H1 a (as.map V.ref)) (ga : Ak H1 as gs) (hD : H1 D = none) (hz : gs.length ≤ 1000)
  (ht : ∀ v g H (R : Bool → Hp → Prop), g ∈ gs → AI H1 H → H v = some (.tup (G.vs g)) → R (P g) H → tc (some (.ref v) :: caps) H R)
  (hd : ∀ H as', AI H1 H → H D = some (.lst (as'.map V.ref)) → Ak H as' (gs.filter P) → Q H) : FH (MO 0) tc caps (Itl K a) D H1 Q := by
 have la := ga.len
 refine Ca (xs := as.map V.ref) (fun i ys H => ∃ as' : List Addr, ys = as'.map V.ref ∧ AI H1 H ∧ H D = some (.lst ys) ∧ Ak H as' ((gs.take i).filter P) ∧ as'.length ≤ i) ⟨[], rfl, Aw hD, AN, .nil, zG _⟩ (fun _ _ H _ ⟨_, _, s1, _⟩ => s1.seq hl) ?_ ?_
 ·rintro i x ys H hx ⟨as', rfl, s1, e1, g1, l1⟩
  have hi : i < gs.length := by
   have := (zA.mp hx).1
   rw [z5] at this
   lia
  obtain ⟨v, hv, t1⟩ := ga.get (z4 hi)
  have ex : x = V.ref v := by
   rw [zJ, hv] at hx
   exact (zN hx).symm
  subst ex
  have et : gs.take (i + 1) = gs.take i ++ [gs[i]] := zM hi
  refine ht v gs[i] H _ (zV hi) s1 (s1.get t1) ?_
  have hlen : (as.map V.ref).length = gs.length := by rw [z5, la]
  by_cases hp : P gs[i] = true
  ·rw [if_pos hp]
   refine ⟨_, rfl, e1, by rw [z5, PySem.sizeLine_eq]; lia, _, by lia, rfl, by lia, as' ++ [v], by rw [zW]; rfl, s1.updFresh hD, AN, ?_, by rw [zC]; simp; lia⟩
   rw [et, qJ, zo, if_pos hp, List.filter_nil]
   exact (g1.snoc (s1.get t1)).fresh (fun ys z => by rw [e1] at z; cases z)
  ·rw [if_neg hp]
   refine ⟨_, by lia, rfl, by lia, as', rfl, s1, e1, ?_, by lia⟩
   rw [et, qJ, zo, if_neg hp, List.filter_nil, qK]
   exact g1
 ·rintro ys H ⟨as', rfl, s1, e1, g1, l1⟩
  rw [z5, la, zl] at g1
  exact hd H as' s1 e1 g1
structure Run where
 g : G
 rest : List G
 t : Thr
noncomputable abbrev Run.all (r : Run) : List G := r.g :: r.rest
noncomputable abbrev Run.last (r : Run) : G := r.rest.getLastD r.g
noncomputable def Gs (H : Hp) (a : Addr) (r : Run) : Prop := ∃ q, H a = some (.tup [.int r.g.p, .int r.last.p, .ref q]) ∧ H q = some (.tup r.t.vs) ∧ OkT r.t ∧ ∀ g ∈ r.all, r.t.pas g
noncomputable def Far : List Run → Prop
 | r :: r' :: rs => ¬ Be (r.all ++ [r'.g]) ∧ Far (r' :: rs)
 | _ => True
theorem Gs.same {H H' : Hp} {a : Addr} {r : Run} (h : Gs H a r) (s : AI H H') : Gs H' a r := by
 obtain ⟨q, e1, e2, e3⟩ := h
 exact ⟨q, s.get e1, s.get e2, e3⟩
structure QL (H : Hp) (D : Addr) (as : List Addr) (rs : List Run) (gs : List G) : Prop where
 eD : H D = some (.lst (as.map V.ref))
 at_ : Paired (Gs H) as rs
 perm : (rs.flatMap Run.all).Perm gs
 asc : Asc (rs.flatMap Run.all)
 far : Far rs
theorem Paired.get {α β : Type} {F : α → β → Prop} {xs : List α} {ys : List β} (h : Paired F xs ys) {i : Nat} {y : β} (hy : ys[i]? = some y) : ∃ x, xs[i]? = some x ∧ F x y := by
 induction h generalizing i with
 | nil => exact absurd hy (by simp)
 | cons e _ ih =>
  cases i with
  | zero =>
   rw [List.getElem?_cons_zero] at hy ⊢
   cases hy
   exact ⟨_, rfl, e⟩
  | succ i =>
   rw [List.getElem?_cons_succ] at hy ⊢
   exact ih hy
theorem QJ (rs : List Run) : rs.length ≤ (rs.flatMap Run.all).length := by
 induction rs with
 | nil => exact zG _
 | cons r rs ih =>
  rw [qH, zC, zE]
  have : r.all.length = r.rest.length + 1 := rfl
  lia
theorem Be.infix {x y z : List G} (h : Be (x ++ y ++ z)) : Be y := fun i j k ⟨h1, h2, a, b, c, e1, e2, e3, hb⟩ => by
 have lift : ∀ {n : Nat} {g : G}, y[n]? = some g → (x ++ y ++ z)[x.length + n]? = some g := fun {n g} e => by
  have hn := (zA.mp e).1
  rw [qI, zg (by lia), Nat.add_sub_cancel_left, qF hn]
  exact e
 exact h (x.length + i) (x.length + j) (x.length + k) ⟨by lia, by lia, a, b, c, lift e1, lift e2, lift e3, hb⟩
theorem LN {xs : List G} (h : xs.length ≤ 2) : Be xs := fun i j k hb => by
 have := hb.lt
 have := hb.1
 have := hb.2.1
 lia
theorem SO {gs : List G} (ha : Asc gs) {u w m : Int} (hm : 0 < m) (h : ∀ g ∈ gs, F9 u w m g) : Be gs := fun i j k ⟨h1, h2, a, b, c, e1, e2, e3, hb⟩ =>
 HY (Bi ha e1 e2 h1) (Bi ha e2 e3 h2) hm hb (h _ (zU e1)) (h _ (zU e2)) (h _ (zU e3))
theorem Ak.takeG {H : Hp} {as : List Addr} {gs : List G} (h : Ak H as gs) (n : Nat) : Ak H (as.take n) (gs.take n) := by
 induction h generalizing n with
 | nil => rw [List.take_nil, List.take_nil]; exact .nil
 | cons e t ih =>
  cases n with
  | zero => exact .nil
  | succ n => exact .cons e (ih n)
theorem F5 {xs : List V} {i : Nat} : Oh xs none (some (i : Int)) = xs.take i := by
 unfold Oh
 rw [HT.sIx_nat, HT.sIx_none, List.drop_zero, Nat.sub_zero]
 by_cases h : i ≤ xs.length
 ·rw [Nat.min_eq_left h]
 ·rw [Nat.min_eq_right (by lia), zl, List.take_of_length_le (by lia)]
theorem Ak.append {H : Hp} {as bs : List Addr} {gs hs : List G} (h : Ak H as gs) (h' : Ak H bs hs) : Ak H (as ++ bs) (gs ++ hs) := by
 induction h with
 | nil => exact h'
 | cons e _ ih => exact .cons e ih
theorem MH {K : W.Frag} {a : Addr} {as : List Addr} {gs : List G} {te : TE} {tc : TT} {caps : St} {D : Addr} {H1 : Hp} {Q : Hp → Prop} (P : G → Bool) (f : G → V) (hl : SqL K H1 a (as.map V.ref)) (ga : Ak H1 as gs) (hD : H1 D = none) (hz : gs.length ≤ 1000)
  (ht : ∀ v g H (R : Bool → Hp → Prop), g ∈ gs → AI H1 H → H v = some (.tup (G.vs g)) → R (P g) H → tc (some (.ref v) :: caps) H R)
  (he : ∀ v g H (R : VK), g ∈ gs → AI H1 H → H v = some (.tup (G.vs g)) → R (f g) H → te (some (.ref v) :: caps) H R)
  (hd : ∀ H, AI H1 H → H D = some (.lst ((gs.filter P).map f)) → Q H) : FH te tc caps (Itl K a) D H1 Q := by
 have la := ga.len
 refine Ca (xs := as.map V.ref) (fun i ys H => ys = ((gs.take i).filter P).map f ∧ AI H1 H ∧ H D = some (.lst ys)) ⟨rfl, Aw hD, AN⟩ (fun _ _ H _ ⟨_, s1, _⟩ => s1.seq hl) ?_ ?_
 ·rintro i x ys H hx ⟨rfl, s1, e1⟩
  have hi : i < gs.length := by
   have := (zA.mp hx).1
   rw [z5] at this
   lia
  obtain ⟨v, hv, t1⟩ := ga.get (z4 hi)
  have ex : x = V.ref v := by
   rw [zJ, hv] at hx
   exact (zN hx).symm
  subst ex
  have et : gs.take (i + 1) = gs.take i ++ [gs[i]] := zM hi
  have hlen : (as.map V.ref).length = gs.length := by rw [z5, la]
  have hle : (((gs.take i).filter P).map f).length ≤ i := by
   rw [z5]
   exact zT (zw _ _) (List.length_take_le _ _)
  refine ht v gs[i] H _ (zV hi) s1 (s1.get t1) ?_
  by_cases hp : P gs[i] = true
  ·rw [if_pos hp]
   refine he v gs[i] H _ (zV hi) s1 (s1.get t1) ?_
   refine ⟨e1, by rw [PySem.sizeLine_eq]; lia, _, by lia, rfl, by lia, ?_, s1.updFresh hD, AN⟩
   rw [et, qJ, zo, if_pos hp, List.filter_nil, zW]
   rfl
  ·rw [if_neg hp]
   refine ⟨_, by lia, rfl, by lia, ?_, s1, e1⟩
   rw [et, qJ, zo, if_neg hp, List.filter_nil, qK]
 ·rintro ys H ⟨rfl, s1, e1⟩
  rw [z5, la, zl] at e1
  exact hd H s1 e1
structure LJ (H : Hp) (D : Addr) (gs : List G) (L q : Addr) (t : Thr) (sg : List G) : Prop where
 eD : H D = some (.tup [.ref L, .ref q])
 eL : H L = some (.lst (((sg.filter fun g => decide (t.pas g)).map G.p).map V.int))
 eq : H q = some (.tup t.vs)
 ok : OkT t
 hp : sg.Perm gs
 ha : Asc sg
 most : ∀ u w m : Int, 0 < m → ∀ ps : List G, ps.Sublist sg → (∀ g ∈ ps, F9 u w m g) → ps.length ≤ (sg.filter fun g => decide (t.pas g)).length
theorem NV : ∀ (xs : List (Int × Int)), xs ≠ [] → (∀ x ∈ xs, 0 < x.2) → ∃ x ∈ xs, ∀ y ∈ xs, x.1 * y.2 ≤ y.1 * x.2
 | [], h, _ => absurd rfl h
 | [x], _, _ => ⟨x, by simp, fun y hy => by rw [zK.mp hy]; exact Int.le_refl _⟩
 | x :: z :: xs, _, hp => by
  obtain ⟨y, hy, hm⟩ := NV (z :: xs) (by simp) (fun w hw => hp w (zD _ hw))
  have px := hp x (by simp)
  have py := hp y (zD _ hy)
  by_cases h : x.1 * y.2 ≤ y.1 * x.2
  ·refine ⟨x, by simp, fun w hw => ?_⟩
   rcases zL.mp hw with e | e
   ·rw [e]; exact Int.le_refl _
   ·have pw := hp w hw
    have k1 := zO h (show 0 ≤ w.2 by lia)
    have k2 := zO (hm w e) (show 0 ≤ x.2 by lia)
    have k3 : x.1 * w.2 * y.2 ≤ w.1 * x.2 * y.2 := by grind
    exact Int.le_of_mul_le_mul_right k3 py
  ·refine ⟨y, zD _ hy, fun w hw => ?_⟩
   rcases zL.mp hw with e | e
   ·rw [e]; lia
   ·exact hm w e
theorem E9 {gs : List G} (ha : Asc gs) {i j : Nat} {x y : G} (hx : gs[i]? = some x) (hy : gs[j]? = some y) (h : x.p < y.p) : i < j := by
 rcases Nat.lt_trichotomy i j with c | c | c
 ·exact c
 ·subst c
  rw [hx] at hy
  cases hy
  lia
 ·have := Bi ha hy hx c
  lia
theorem II {gs : List G} (ha : Asc gs) (nb : Be gs) {a b c : G} (h1 : a ∈ gs) (h2 : b ∈ gs) (h3 : c ∈ gs) (l1 : a.p < b.p) (l2 : b.p < c.p) : ¬ NP a b c := by
 obtain ⟨i, hi⟩ := zp.mp h1
 obtain ⟨j, hj⟩ := zp.mp h2
 obtain ⟨k, hk⟩ := zp.mp h3
 exact fun hb => nb i j k ⟨E9 ha hi hj l1, E9 ha hj hk l2, a, b, c, hi, hj, hk, hb⟩
theorem Nt {gs : List G} (ha : Asc gs) {x y : G} (hx : x ∈ gs) (hy : y ∈ gs) (e : x.p = y.p) : x = y := by
 obtain ⟨i, hi⟩ := zp.mp hx
 obtain ⟨j, hj⟩ := zp.mp hy
 rcases Nat.lt_trichotomy i j with c | c | c
 ·have := Bi ha hi hj c
  lia
 ·subst c
  rw [hi] at hj
  exact zN hj
 ·have := Bi ha hj hi c
  lia
theorem PM {K : W.Frag} {a : Addr} {as : List Addr} {gs : List G} {te : TE} {caps : St} {D : Addr} {H1 : Hp} {Q : Hp → Prop} (F : Hp → V → G → Prop) (fs : ∀ H H' v g, AI H H' → F H v g → F H' v g)
  (fd : ∀ H v g xs ys, H D = some (.lst xs) → F H v g → F (L2.upd H D (.lst ys)) v g) (hl : SqL K H1 a (as.map V.ref)) (ga : Ak H1 as gs) (hD : H1 D = none) (hz : gs.length ≤ 1000)
  (he : ∀ v g H (R : VK), g ∈ gs → AI H1 H → H v = some (.tup (G.vs g)) → (∀ y H', AI H H' → F H' y g → R y H') → te (some (.ref v) :: caps) H R)
  (hd : ∀ H ys, AI H1 H → H D = some (.lst ys) → Paired (F H) ys gs → Q H) : FH te En caps (Itl K a) D H1 Q := by
 have la := ga.len
 have hlen : (as.map V.ref).length = gs.length := by rw [z5, la]
 refine Ca (xs := as.map V.ref) (fun i ys H => AI H1 H ∧ H D = some (.lst ys) ∧ Paired (F H) ys (gs.take i)) ⟨Aw hD, AN, .nil⟩ (fun _ _ H _ ⟨s1, _⟩ => s1.seq hl) ?_ ?_
 ·rintro i x ys H hx ⟨s1, e1, pr⟩
  have hi : i < gs.length := by
   have := (zA.mp hx).1
   lia
  obtain ⟨v, hv, t1⟩ := ga.get (z4 hi)
  have ex : x = V.ref v := by
   rw [zJ, hv] at hx
   exact (zN hx).symm
  subst ex
  have et : gs.take (i + 1) = gs.take i ++ [gs[i]] := zM hi
  have hle : ys.length ≤ i := by
   rw [Paired.length pr]
   exact List.length_take_le _ _
  unfold En
  dsimp only
  rw [if_pos rfl]
  refine he v gs[i] H _ (zV hi) s1 (s1.get t1) fun y H' s2 fy => ?_
  refine ⟨s2.get e1, by rw [PySem.sizeLine_eq]; lia, _, by lia, rfl, by lia, (s1.trans s2).updFresh hD, AN, ?_⟩
  rw [et]
  have e2 := s2.get e1
  have pr2 := Paired.mapP pr fun v g h => fd _ _ _ _ (ys ++ [y]) e2 (fs _ _ _ _ s2 h)
  have app : ∀ {α β : Type} {F : α → β → Prop} {l : List α} {r : List β} {x : α} {y : β}, Paired F l r → F x y → Paired F (l ++ [x]) (r ++ [y]) := by
   intro α β F l r x y h hxy
   induction h with
   | nil => exact .cons hxy .nil
   | cons h1 _ ih => exact .cons h1 ih
  exact app pr2 (fd _ _ _ _ _ e2 fy)
 ·rintro ys H ⟨s1, e1, pr⟩
  rw [hlen, zl] at pr
  exact hd H ys s1 e1 pr
theorem Paired.eq_map {α β : Type} {f : β → α} : ∀ {xs : List α} {ys : List β}, Paired (fun x y => x = f y) xs ys → xs = ys.map f
 | _, _, .nil => rfl
 | _, _, .cons h t => by rw [zZ, ← Paired.eq_map t, h]
theorem Rc {p0 h0 p1 h1 a b c d : Int} (lt : p0 < p1) (L1 : FD (h0 * (p1 - p0) - p0 * (h1 - h0)) (p1 - p0) a b) (L2 : FD (h1 - h0) (p1 - p0) c d) :
  (∀ g : G, (⟨a, b, c, d⟩ : Thr).pas g ↔ F9 (h0 * p1 - h1 * p0) (h1 - h0) (p1 - p0) g) ∧ (⟨a, b, c, d⟩ : Thr).gap p0 h0 = 0 ∧ (⟨a, b, c, d⟩ : Thr).gap p1 h1 = 0 := by
 have e1 := L1.eq
 have e2 := L2.eq
 have hb := L1.pos
 have hd := L2.pos
 have hbd : 0 < b * d := Int.mul_pos hb hd
 have hS : 0 < p1 - p0 := by lia
 have eU : h0 * (p1 - p0) - p0 * (h1 - h0) = h0 * p1 - h1 * p0 := by grind
 rw [eU] at e1
 have key : ∀ p, (p1 - p0) * (a * d + c * b * p) = (b * d) * (h0 * p1 - h1 * p0 + (h1 - h0) * p) := fun p => by grind
 refine ⟨fun g => ?_, ?_, ?_⟩
 ·rw [D5]
  unfold F9
  show g.f * (b * d) ≤ a * d + c * b * g.p ∧ a * d + c * b * g.p ≤ g.h * (b * d) ↔ _
  have k := key g.p
  constructor
  ·rintro ⟨q1, q2⟩
   have r1 := zk q1 (qB hS)
   have r2 := zk q2 (qB hS)
   rw [k] at r1 r2
   refine ⟨zj (a := b * d) ?_ hbd, zj (a := b * d) ?_ hbd⟩
   ·rw [show b * d * (g.f * (p1 - p0)) = (p1 - p0) * (g.f * (b * d)) by grind]; exact r1
   ·rw [show b * d * (g.h * (p1 - p0)) = (p1 - p0) * (g.h * (b * d)) by grind]; exact r2
  ·rintro ⟨q1, q2⟩
   have r1 := zk q1 (qB hbd)
   have r2 := zk q2 (qB hbd)
   rw [← k] at r1 r2
   refine ⟨zj (a := p1 - p0) ?_ hS, zj (a := p1 - p0) ?_ hS⟩
   ·rw [show (p1 - p0) * (g.f * (b * d)) = b * d * (g.f * (p1 - p0)) by grind]; exact r1
   ·rw [show (p1 - p0) * (g.h * (b * d)) = b * d * (g.h * (p1 - p0)) by grind]; exact r2
 ·show a * d + c * p0 * b - h0 * b * d = 0
  have k := key p0
  have hz : (p1 - p0) * (a * d + c * p0 * b - h0 * b * d) = 0 := by grind
  rcases Int.mul_eq_zero.mp hz with z | z
  ·lia
  ·exact z
 ·show a * d + c * p1 * b - h1 * b * d = 0
  have k := key p1
  have hz : (p1 - p0) * (a * d + c * p1 * b - h1 * b * d) = 0 := by grind
  rcases Int.mul_eq_zero.mp hz with z | z
  ·lia
  ·exact z
theorem Sx {p0 h0 p1 h1 a b c d : Int} (b0 : p0.natAbs ≤ 1000) (b1 : h0.natAbs ≤ 1000) (b2 : p1.natAbs ≤ 1000) (b3 : h1.natAbs ≤ 1000) (L1 : FD (h0 * (p1 - p0) - p0 * (h1 - h0)) (p1 - p0) a b) (L2 : FD (h1 - h0) (p1 - p0) c d) : OkT ⟨a, b, c, d⟩ := by
 have m1 := CL (m := 1000) (n := 2000) b1 (show (p1 - p0).natAbs ≤ 2000 by clear L1 L2 b1 b3; lia)
 have m2 := CL (m := 1000) (n := 2000) b0 (show (h1 - h0).natAbs ≤ 2000 by clear L1 L2 m1 b0 b2; lia)
 have t1 : (h0 * (p1 - p0) - p0 * (h1 - h0)).natAbs ≤ 1000 * 2000 + 1000 * 2000 := zT (Int.natAbs_sub_le _ _) (Nat.add_le_add m1 m2)
 have s1 : (p1 - p0).natAbs ≤ 2000 := by clear m1 m2 t1 L1 L2 b1 b3; lia
 have s2 : (h1 - h0).natAbs ≤ 2000 := by clear m1 m2 t1 L1 L2 b0 b2; lia
 exact ⟨zT L1.absx (zT t1 (by decide)), zT L1.absy (zT s1 (by decide)), zT L2.absx (zT s2 (by decide)), zT L2.absy (zT s1 (by decide)), L1.pos, L2.pos, L1.one, L2.one⟩
noncomputable def LeR (x y u v : G) : Prop := (y.h - x.f) * (v.p - u.p) ≤ (v.h - u.f) * (y.p - x.p)
theorem LeR.refl (x y : G) : LeR x y x y := Int.le_refl _
theorem LeR.trans {x y u v u' v' : G} (l0 : x.p < y.p) (l1 : u.p < v.p) (l2 : u'.p < v'.p) (h1 : LeR x y u v) (h2 : LeR u v u' v') : LeR x y u' v' := by
 unfold LeR at *
 have r1 := zO h1 (show 0 ≤ v'.p - u'.p by lia)
 have r2 := zO h2 (show 0 ≤ y.p - x.p by lia)
 refine zj (a := v.p - u.p) ?_ (by lia)
 have e1 : (v.p - u.p) * ((y.h - x.f) * (v'.p - u'.p)) = (y.h - x.f) * (v.p - u.p) * (v'.p - u'.p) := by grind
 have e2 : (v.p - u.p) * ((v'.h - u'.f) * (y.p - x.p)) = (v'.h - u'.f) * (v.p - u.p) * (y.p - x.p) := by grind
 have e3 : (v.h - u.f) * (y.p - x.p) * (v'.p - u'.p) = (v.h - u.f) * (v'.p - u'.p) * (y.p - x.p) := by grind
 rw [e1, e2]
 rw [e3] at r1
 exact Int.le_trans r1 r2
structure Wk (H : Hp) (D : Addr) (gs : List G) (q : Addr) (t : Thr) (x y : G) : Prop where
 eD : H D = some (.tup [.ref q, .int x.p, .int y.p])
 eq : H q = some (.tup t.vs)
 ok : OkT t
 all : ∀ g ∈ gs, t.pas g
 hx : x ∈ gs
 hy : y ∈ gs
 lt : x.p < y.p
 tx : t.gap x.p x.f = 0
 ty : t.gap y.p y.h = 0
theorem Jm {gs : List G} (ha : Asc gs) (ok : ∀ g ∈ gs, OkG g) {x y : G} (hx : x ∈ gs) (hy : y ∈ gs) (lt : x.p < y.p) (least : ∀ x' ∈ gs, ∀ y' ∈ gs, x'.p < y'.p → LeR x y x' y') (hn : ¬ ∀ g ∈ gs, F9 (x.f * y.p - y.h * x.p) (y.h - x.f) (y.p - x.p) g) : ¬ Be gs := fun nb =>
 hn (NL ok hx hy lt least (fun g hg g' hg' e => Nt ha hg hg' e) (fun m hm l z => II ha nb hm hx hy l lt (.inl z)) (fun m hm l z => II ha nb hx hy hm lt l (.inr z)))
theorem QV {gs sg : List G} (hp : sg.Perm gs) (ha : Asc sg) (hb : ¬ Be sg) {t : List Int} (h : By gs t) : t ≠ [] := by
 rcases h with ⟨sg', hp', ha', hn, rfl⟩ | ⟨_, _, _, _, _, _, _, _, _, _, _, _, _, rfl⟩
 ·have e := Bg ha' ha (hp'.trans hp.symm)
  subst e
  exact absurd hn hb
 ·simp
noncomputable def CD (g : G) : G := ⟨g.p, -g.h, -g.f⟩
noncomputable def Mx (t : Thr) : Thr := ⟨-t.a, t.b, -t.c, t.d⟩
theorem Wu {g : G} (h : OkG g) : OkG (CD g) := by
 obtain ⟨h1, h2, h3, h4, h5⟩ := h
 exact ⟨h1, h2, by show -1000 ≤ -g.h; lia, by show -g.h ≤ -g.f; lia, by show -g.f ≤ 1000; lia⟩
theorem Vz {t : Thr} (h : OkT t) : OkT (Mx t) := by
 obtain ⟨h1, h2, h3, h4, h5, h6, h7, h8⟩ := h
 exact ⟨by show (-t.a).natAbs ≤ _; lia, h2, by show (-t.c).natAbs ≤ _; lia, h4, h5, h6, by show Int.gcd (-t.a) t.b = 1; rw [Int.neg_gcd]; exact h7, by show Int.gcd (-t.c) t.d = 1; rw [Int.neg_gcd]; exact h8⟩
theorem VW {t : Thr} {g : G} : (Mx t).pas g ↔ t.pas (CD g) := by
 show Pas (-t.a) t.b (-t.c) t.d g.p g.f g.h ↔ Pas t.a t.b t.c t.d g.p (-g.h) (-g.f)
 unfold Pas
 have e1 : -t.a * t.d + g.p * -t.c * t.b = -(t.a * t.d + g.p * t.c * t.b) := by grind
 have e2 : -g.h * (t.b * t.d) = -(g.h * (t.b * t.d)) := by grind
 have e3 : -g.f * (t.b * t.d) = -(g.f * (t.b * t.d)) := by grind
 rw [e1, e2, e3]
 generalize t.a * t.d + g.p * t.c * t.b = A
 generalize g.h * (t.b * t.d) = B
 generalize g.f * (t.b * t.d) = C
 constructor <;> (rintro ⟨h1, h2⟩; exact ⟨by lia, by lia⟩)
theorem Ud {gs : List G} (h : Asc gs) : Asc (gs.map CD) := by
 unfold Asc
 rw [qC]
 exact h
theorem Uc {a b c : G} : NP (CD a) (CD b) (CD c) ↔ NP a b c := by
 have e1 : B6 (CD a) (CD b) (CD c) ↔ CC a b c := by
  show -a.f * (c.p - b.p) + -c.f * (b.p - a.p) < -b.h * (c.p - a.p) ↔ b.h * (c.p - a.p) < a.f * (c.p - b.p) + c.f * (b.p - a.p)
  have q1 : -a.f * (c.p - b.p) + -c.f * (b.p - a.p) = -(a.f * (c.p - b.p) + c.f * (b.p - a.p)) := by grind
  have q2 : -b.h * (c.p - a.p) = -(b.h * (c.p - a.p)) := by grind
  rw [q1, q2]
  generalize a.f * (c.p - b.p) + c.f * (b.p - a.p) = A
  generalize b.h * (c.p - a.p) = B
  constructor <;> (intro h; lia)
 have e2 : CC (CD a) (CD b) (CD c) ↔ B6 a b c := by
  show -b.f * (c.p - a.p) < -a.h * (c.p - b.p) + -c.h * (b.p - a.p) ↔ a.h * (c.p - b.p) + c.h * (b.p - a.p) < b.f * (c.p - a.p)
  have q1 : -a.h * (c.p - b.p) + -c.h * (b.p - a.p) = -(a.h * (c.p - b.p) + c.h * (b.p - a.p)) := by grind
  have q2 : -b.f * (c.p - a.p) = -(b.f * (c.p - a.p)) := by grind
  rw [q1, q2]
  generalize a.h * (c.p - b.p) + c.h * (b.p - a.p) = A
  generalize b.f * (c.p - a.p) = B
  constructor <;> (intro h; lia)
 unfold NP
 rw [e1, e2]
 exact Or.comm
theorem Sg {gs : List G} (h : Be gs) : Be (gs.map CD) := fun i j k ⟨h1, h2, a, b, c, e1, e2, e3, hb⟩ => by
 rw [zJ] at e1 e2 e3
 obtain ⟨a', f1, rfl⟩ := ze.mp e1
 obtain ⟨b', f2, rfl⟩ := ze.mp e2
 obtain ⟨c', f3, rfl⟩ := ze.mp e3
 exact h i j k ⟨h1, h2, a', b', c', f1, f2, f3, Uc.mp hb⟩
theorem Gs.updL {H : Hp} {a R : Addr} {r : Run} {xs ys : List V} (h : Gs H a r) (hR : H R = some (.lst xs)) : Gs (L2.upd H R (.lst ys)) a r := by
 obtain ⟨q, e1, e2, e3⟩ := h
 exact ⟨q, by rw [AL (BQ e1 hR (by intro z; cases z))]; exact e1, by rw [AL (BQ e2 hR (by intro z; cases z))]; exact e2, e3⟩
theorem Q6 : ∀ {rs : List Run} {r r' : Run}, Far (rs ++ [r]) → ¬ Be (r.all ++ [r'.g]) → Far (rs ++ [r] ++ [r'])
 | [], _, _, _, h => ⟨h, trivial⟩
 | [a], r, r', h1, h => ⟨h1.1, h, trivial⟩
 | a :: b :: rs, r, r', h1, h => ⟨h1.1, Q6 (rs := b :: rs) h1.2 h⟩
theorem Rh : ∀ {rs : List Run} {r r' : Run}, Far (rs ++ [r]) → r.g = r'.g → Far (rs ++ [r'])
 | [], _, _, _, _ => trivial
 | [a], r, r', h1, e => ⟨by rw [← e]; exact h1.1, trivial⟩
 | a :: b :: rs, r, r', h1, e => ⟨h1.1, Rh (rs := b :: rs) h1.2 e⟩
theorem Qt (r : Run) : [r].flatMap Run.all = r.all := by simp
theorem Asc.take' {gs : List G} (h : Asc gs) (n : Nat) : Asc (gs.take n) := List.Pairwise.sublist (List.take_sublist n gs) h
theorem Asc.right {xs ys : List G} (h : Asc (xs ++ ys)) : Asc ys := (List.pairwise_append.mp h).2.1
theorem N5 (g : G) (rest : List G) (t : Thr) : ∃ pre, g :: rest = pre ++ [(⟨g, rest, t⟩ : Run).last] := by
 induction rest generalizing g with
 | nil => exact ⟨[], rfl⟩
 | cons a r ih =>
  obtain ⟨pre, e⟩ := ih a
  refine ⟨g :: pre, ?_⟩
  have e2 : (⟨g, a :: r, t⟩ : Run).last = (⟨a, r, t⟩ : Run).last := List.getLastD_cons ..
  rw [e2, List.cons_append, ← e]
theorem UV {H : Hp} {as : List Addr} {pre : List G} {g : G} (h : Ak H as (pre ++ [g])) : ∃ bs a, as = bs ++ [a] ∧ H a = some (.tup (G.vs g)) := by
 have hl := h.len
 rw [zC] at hl
 have hne : as ≠ [] := fun z => by rw [z] at hl; simp at hl
 obtain ⟨a, ha, ea⟩ := h.get (i := pre.length) (g := g) (by simp)
 refine ⟨as.dropLast, as.getLast hne, (List.dropLast_concat_getLast hne).symm, ?_⟩
 have e : as.getLast hne = a := by
  rw [List.getLast_eq_getElem]
  have := (zA.mp ha).2
  rw [← this]
  congr 1
  simp at hl
  lia
 rw [e]
 exact ea
theorem Tc {X : Cx} {K : W.Frag} (h : X.K = K) : Bl X (.builtin "len") (fun xs H Q => ∃ p ys, xs = [.ref p] ∧ (SqL K H p ys ∨ SqT K H p ys) ∧ Q (.int ys.length) H) := by
 subst h
 exact AJ
end TG
namespace L2
open PySem PySem.Spec PyProof.Rows
theorem A3.here {P : Program} {w : World} {H : Hp} {h : Heap} {a : Addr} {o : HO} (x : A3 P w H h a o) : ∃ ob, h.get? a = some ob := by
 cases q : h.get? a with
 | some ob => exact ⟨ob, rfl⟩
 | none =>
  exfalso
  have x' : A3 P w H h a o := x
  induction o with
  | lst xs => obtain ⟨_, _, _, _, e⟩ := x'; rw [q] at e; cases e
  | tup xs => obtain ⟨_, _, _, o, e, _⟩ := x'; rw [q] at e; cases e
  | dK kvs => obtain ⟨_, _, _, _, o, _, _, e, _⟩ := x'; rw [q] at e; cases e
  | dT kvs => obtain ⟨_, _, _, _, o, _, _, e, _⟩ := x'; rw [q] at e; cases e
  | set S n => obtain ⟨o, _, _, _, e, _⟩ := x'; rw [q] at e; cases e
  | ins C dx fs => obtain ⟨_, _, _, e, _⟩ := x'; rw [q] at e; cases e
  | own b => obtain ⟨o, e⟩ := x'; rw [q] at e; cases e
  | xd fs => obtain ⟨_, ⟨o, _, _, e, _⟩, _⟩ := x'; rw [q] at e; cases e
  | rng lo hi => obtain ⟨_, _, _, e⟩ := x'; rw [q] at e; cases e
  | frz o u ih => exact ih x'.2 x'.2
  | tbl ps => have e : h.get? a = _ := x'; rw [q] at e; cases e
  | met f y => have e : h.get? a = _ := x'; rw [q] at e; cases e
  | ext φ => obtain ⟨_, ⟨o, e⟩, _⟩ := x'; rw [q] at e; cases e
noncomputable def Fly (l : List Env) (hs : Heap) (H' : Hp) (ea : Addr) (cls : Value) (h : Heap) : Prop :=
 ∃ (B : Heap) (a0 : Value), Heap.FlyingW B l ea cls a0 h ∧ (∀ b o, hs.get? b = some o → b ∉ frs l → ∃ o', B.get? b = some o') ∧ ∀ b, H' b ≠ none → ∃ o', B.get? b = some o'
noncomputable def CXE (P : Program) (w : World) : CXT := fun outer H s E e s' => ∃ (ea : Addr) (cls : Value) (H' : Hp), e = .ref ea ∧ s'.os = s.os ∧ AllBare s'.gens ∧ Un (frs outer) [] H H' s.heap s'.heap ∧ HOk P w H' s'.heap ∧ Fly outer s.heap H' ea cls s'.heap ∧ E cls none H'
section
variable {X : Cx} {pins : List (Addr × Obj)} {σ σ1 : St} {H H1 H' : Hp} {s s1 s' : Shared} {h' B : Heap} {ea : Addr} {cls : Value}
theorem Inv.notStack (I : Inv X pins σ H s) {b : Addr} {o : Obj} (e : X.s₀.heap.get? b = some o) (hb : b ∉ X.fs) : b ∉ frs X.stack := fun hm => by
 rcases zL.mp (I.stkSub b hm) with z | z
 ·exact absurd (zF (zH e) I.ok.above) (by rw [z]; exact zr _)
 ·exact hb z
theorem Inv.fly (I1 : Inv X pins σ1 H1 s1) (I : Inv X pins σ H s) (hB : B.StaysIn s.heap) (hB' : B.StaysIn h') (up : s.heap.UpToSlots h')
  (c1 : ∀ b o, s1.heap.get? b = some o → b ∉ frs X.stack → ∃ o', B.get? b = some o') (c2 : ∀ b, H b ≠ none → ∃ o', B.get? b = some o') : Inv X pins σ H { s with heap := h' } := by
 have via : ∀ b o, s.heap.get? b = some o → (∃ o', B.get? b = some o') → h'.get? b = some o := fun b o e ⟨o', eb⟩ => by
  have := hB b o' eb
  rw [e] at this
  cases this
  exact hB' b o eb
 have slot : ∀ b o, X.s₀.heap.get? b = some o → X.H₀ b = none → b ∈ X.fs → b ∉ X.ex → ∃ sl, h'.get? b = some { o with slots := sl } := fun b o e n hb hx => by
  obtain ⟨sl, e1⟩ := I.base.slot b o e n hb hx
  obtain ⟨_, of, hof, hnf⟩ := I.ok.funs.mem hb
  rw [e] at hof
  cases hof
  obtain ⟨sl', e2⟩ := up b _ e1 hnf
  exact ⟨sl', e2⟩
 have cellK : ∀ c v, s.heap.IsCell c v → h'.IsCell c v := fun c v ⟨o, ho, hd⟩ => by
  obtain ⟨sl, e⟩ := up c o ho (fun vs q => by rw [hd] at q; cases q)
  exact ⟨_, e, hd⟩
 refine ⟨I.ok, I.os, I.bare, ⟨fun b o e n hb hx => ?_, slot, I.base.free, fun b o e hx => ?_, I.base.tups, I.base.frzs, I.base.tbls⟩, ?_, fun x c e => ?_, I.free, I.freeC, fun p hp => ?_, fun b u e => ?_, I.len⟩
 ·exact via b o (I.base.keep b o e n hb hx) (c1 b o (I1.base.keep b o e n hb hx) (I.notStack e hb))
 ·by_cases hb : b ∈ X.fs
  ·obtain ⟨sl, q⟩ := slot b o e (I.ok.frf b hb) hb hx
   exact ⟨_, q⟩
  ·obtain ⟨o1, a1⟩ := I1.base.there b o e hx
   obtain ⟨o', eb⟩ := c1 b o1 a1 (I.notStack e hb)
   exact ⟨o', hB' b o' eb⟩
 ·obtain ⟨m, hn, hl⟩ := I.loc
  refine ⟨m, up.ns hn, fun i x v e1 e2 e3 => ?_⟩
  obtain ⟨u, r, l⟩ := hl i x v e1 e2 e3
  refine ⟨u, r, ?_⟩
  rcases l with l | ⟨k, c, e, z⟩
  ·exact .inl l
  ·exact .inr ⟨k, c, e, cellK c _ z⟩
 ·obtain ⟨v, z⟩ := I.cell x c e
  exact ⟨v, cellK c v z⟩
 ·obtain ⟨e, n, ne, nf, d⟩ := I.pin p hp
  refine ⟨via p.1 p.2 e (c1 p.1 p.2 (I1.pin p hp).1 fun hm => ?_), n, ne, nf, d⟩
  rcases zL.mp (I.stkSub _ hm) with z | z
  ·exact ne z
  ·exact nf z
 ·refine (I.hok b u e).stay (fun c v hc q => via c v q (c2 c ?_)) (fun _ q => q) fun _ _ q => q
  rcases hc with z | z
  ·rw [z, e]; simp
  ·rw [z]; simp
structure Arr (X : Cx) (pins : List (Addr × Obj)) (σ : St) (ea : Addr) (cls : Value) (H' : Hp) (s' : Shared) : Prop where
 inv : Inv X pins σ H' s'
 fly : ∃ (H1 : Hp) (s1 : Shared), Inv X pins σ H1 s1 ∧ Fly X.stack s1.heap H' ea cls s'.heap
theorem VE {E : XK} {e : Value} (I : Inv X pins σ H s) (h : CXE X.prog X.w X.stack H s E e s') : ∃ ea cls H', e = .ref ea ∧ Arr X pins σ ea cls H' s' ∧ E cls none H' := by
 obtain ⟨ea, cls, H', rfl, os, bare, un, hok, fl, hE⟩ := h
 exact ⟨ea, cls, H', rfl, ⟨I.call' (ch := []) os un hok bare (fun b z => absurd z (by simp)), H, s, I, fl⟩, hE⟩
end
section
variable {P : Program} {w : World} {K : W.Frag} {mg : Str → Option Value} {base : Heap} {N : List Str} {qual : Str} {scope : Scope} {f : Addr} {cd : Value} {A : Around} {outer : List Env} {s : Shared} {H : Hp} {E : XK}
 {pins : List (Addr × Obj)} {σ : St} {H1 H' : Hp} {s1 s' : Shared} {ea : Addr} {cls : Value} {h' : Heap} {args : List Value}
theorem ZF (a : Arr (FM (CXE P w) P w K mg base N qual scope f cd A outer s H E) pins σ ea cls H' s') (hE : E cls none H') : (FM (CXE P w) P w K mg base N qual scope f cd A outer s H E).xe (.ref ea) s' := by
 obtain ⟨I, H1, s1, I1, B, a0, fl, c1, c2⟩ := a
 refine wpAny_leaves_onW (A := A.deeper (envOfC qual scope s.heap.objs.size f cd)) (env := envOfC qual scope s.heap.objs.size f cd) (outer := outer) I.ok.frames rfl fl fun h' fl' up => ?_
 have I2 := Inv.fly I1 I fl.1 fl'.1 up c1 c2
 refine ⟨ea, cls, H', rfl, I2.os, I2.bare, I2.base, I2.hok, ⟨B, a0, fl', fun b o e hb => ?_, c2⟩, hE⟩
 obtain ⟨o1, a1⟩ := I1.base.there b o e (fun z => absurd (show b ∈ ([] : List Addr) from z) (by simp))
 exact c1 b o1 a1 (I.notStack e hb)
theorem W8 (I : Inv (FM (CXE P w) P w K mg base N qual scope f cd A outer s H E) pins σ H1 s1) (hx : Heap.MadeExcOf s1.heap h' ea cls args) (hE : E cls none H1) : (FM (CXE P w) P w K mg base N qual scope f cd A outer s H E).xe (.ref ea) { s1 with heap := h' } := by
 have hin : ∀ env ∈ (envOfC qual scope s.heap.objs.size f cd :: outer), ∀ b, env.frame = some b → b ∈ frs (envOfC qual scope s.heap.objs.size f cd :: outer) := fun env he b hb => List.mem_filterMap.mpr ⟨env, he, hb⟩
 have hfun : s1.heap.FunFrames (W.hideAll s1.heap (frs (envOfC qual scope s.heap.objs.size f cd :: outer))) (envOfC qual scope s.heap.objs.size f cd :: outer) := W.funFrames_hide I.stack hin
 have c1 : ∀ b o, s1.heap.get? b = some o → b ∉ frs (envOfC qual scope s.heap.objs.size f cd :: outer) → ∃ o', (W.hideAll s1.heap (frs (envOfC qual scope s.heap.objs.size f cd :: outer))).get? b = some o' := fun b o e hb => ⟨o, W.hideAll_get _ e hb⟩
 have c2 : ∀ b, H1 b ≠ none → ∃ o', (W.hideAll s1.heap (frs (envOfC qual scope s.heap.objs.size f cd :: outer))).get? b = some o' := fun b n => by
  cases q : H1 b with
  | none => exact absurd q n
  | some o =>
   obtain ⟨ob, e⟩ := (I.hok b o q).here
   exact ⟨ob, W.hideAll_get _ e fun z => by rw [I.stkFree b z] at q; cases q⟩
 refine wpAny_leaves_madeW (A := A.deeper (envOfC qual scope s.heap.objs.size f cd)) (s := { s1 with heap := h' }) (env := envOfC qual scope s.heap.objs.size f cd) (outer := outer) I.ok.frames rfl (fun b o q => W.of_hideAll _ q) hfun hx fun h'' t fl tup tn up => ?_
 have I' : Inv (FM (CXE P w) P w K mg base N qual scope f cd A outer s H E) pins σ H1 { s1 with heap := h' } := I.kept (t' := s1.toks) hx.keeps
 have I2 := Inv.fly (h' := h'') I I' (fun b o q => hx.keeps b o (W.of_hideAll _ q)) fl.1 up c1 c2
 refine ⟨ea, cls, H1, rfl, I2.os, I2.bare, I2.base, I2.hok, ⟨_, _, fl, fun b o e hb => ?_, c2⟩, hE⟩
 obtain ⟨o1, a1⟩ := I.base.there b o e (fun z => absurd (show b ∈ ([] : List Addr) from z) (by simp))
 exact c1 b o1 a1 (I.notStack e hb)
theorem EW : E7 (CXE P w) (FM (CXE P w) P w K mg base N qual scope f cd A outer s H E) E := fun pins σ H s e s' I h => by
 obtain ⟨ea, cls, H', rfl, arr, hE⟩ := VE I h
 exact ZF arr hE
theorem Zd : PassesOwn (model P w) (FM (CXE P w) P w K mg base N qual scope f cd A outer s H E).A (FM (CXE P w) P w K mg base N qual scope f cd A outer s H E).env (FM (CXE P w) P w K mg base N qual scope f cd A outer s H E).xe := PassesOwn.leaving (Q₁ := fun e s'' => CXE P w outer H s E e s'')
theorem Fun.okX {x qual : Str} {st : Stmt} {f : Addr} {fd : FuncData} {N ps : List Str} {k : Nat} {sp : Sp} (F : Fun K x qual st f fd) (S : AR N ps (AG st)) (len : ∀ vs H Q E, sp vs H Q E → vs.length = ps.length)
  (hbody : ∀ (cdv : Value) (A : Around) (outer : List Env) (s : Shared) (H : Hp) (vs : List V) (Q : VK) (E : XK), CF k (A.deeper (envOfC qual (AG st) s.heap.objs.size f cdv)) → sp vs H Q E →
   ∃ t, PSs (FM (CXE P w) P w K mg base N qual (AG st) f cdv A outer s H E) (BH st) t ∧ t { nx := fun _ H' => Q .non H', rt := Q } (start N vs) H) : Af P w K mg base (CXE P w) (k + 1) f fd ps sp := by
 obtain ⟨oc, od, kV, doc, pm, an, cdv, ct, osl, rfl, lk, hcd⟩ := F.ex
 exact Sq lk hcd S len fun A outer s H vs Q E hr hsp => hbody cdv A outer s H vs Q E hr hsp
end
structure DM (K : W.Frag) (C : Addr) (x qual : Str) (st : Stmt) (ps : List Str) (f : Addr) (fd : FuncData) : Prop where
 F : Fun K x qual st f fd
 mt : Rz K C x f
 b : Binds K fd ps []
noncomputable abbrev bmV : List Value := [.type "ValueError", .type "Exception", .type "BaseException", .type "object"]
noncomputable abbrev Fn (K : W.Frag) (C : Addr) : Prop := W.excIn K C bmV "ValueError.__new__" = true
theorem toArr {α : Type} {sl : Array α} {l : List α} (e : sl.toList = l) : sl = l.toArray := by rw [← e]
theorem Fn.rec {K : W.Frag} {C : Addr} (q : Fn K C) : ∃ (dd : Option Addr) (cd : ClassData) (bm : List Value) (k0 k1 k2 k3 k5 : Option Value),
  K.lookup C = some ⟨.type "type", dd, .cls cd, #[k0, k1, k2, k3, some (.builtin "ValueError.__new__"), k5]⟩ ∧ cd.mro = .ref C :: bm ∧ cd.hasDel = false ∧ W.tailIn K bmV bm = true ∧ W.nsOkIn K cd.ns = true ∧ W.nsIn K cd.ns "__init__" = some none := by
 simp only [Fn, W.excIn] at q
 repeat' split at q
 all_goals first | exact absurd q zS | skip
 next dd cd sl hK mr ll C' bm k0 k1 k2 k3 n k5 e1 e2 =>
  rw [toArr e2] at hK
  simp only [Bool.and_eq_true] at q
  obtain ⟨⟨⟨⟨⟨h1, h2⟩, h3⟩, h4⟩, h5⟩, h6⟩ := q
  have h1 : C' = C := by simpa using h1
  have h2 : n = "ValueError.__new__" := by simpa using h2
  subst h1 h2
  exact ⟨dd, cd, bm, k0, k1, k2, k3, k5, hK, e1, by simpa using h3, h4, h5, by simpa using h6⟩
theorem Fn.own {K : W.Frag} {C : Addr} {x : Str} {mg : Str → Option Value} {h : Heap} (q : Fn K C) (X : K.In h) (hm : mg x = some (.ref C)) : OwnCls x C bmV "ValueError.__new__" mg h := by
 obtain ⟨dd, cd, bm, k0, k1, k2, k3, k5, hK, e1, e2, e3, e4, e5⟩ := q.rec
 have ns : h.Ns cd.ns (h.nsMap cd.ns) := .of_isNs (W.isNs_of_in X e4)
 have no : h.nsMap cd.ns "__init__" = none := W.nsMap_none_of_in X e4 e5
 have tl := W.tail_of_in X e3
 rcases cd with ⟨a1, a2, a3, a4, a5, a6, a7, a8, a9, a10, a11⟩
 simp only at e1 e2
 subst e1 e2
 exact ⟨hm, bm, a4, a1, a5, a2, a6, a7, a8, a9, a10, dd, k0, k1, k2, k3, k5, _, X _ _ hK, ns, no, tl⟩
noncomputable def XA (X : Cx) (E : XK) : Prop := ∀ (pins : List (Addr × Obj)) (σ : St) (H : Hp) (s : Shared) (h' : Heap) (ea : Addr) (cls : Value) (args : List Value), Inv X pins σ H s → Heap.MadeExcOf s.heap h' ea cls args → E cls none H → X.xe (.ref ea) { s with heap := h' }
theorem EF {P : Program} {w : World} {K : W.Frag} {mg : Str → Option Value} {base : Heap} {N : List Str} {qual : Str} {scope : Scope} {f : Addr} {cd : Value} {A : Around} {outer : List Env} {s : Shared} {H : Hp} {E : XK} : XA (FM (CXE P w) P w K mg base N qual scope f cd A outer s H E) E := fun _ _ _ _ _ _ _ _ I hx hE => W8 I hx hE
section
variable {X : Cx} {E : XK} {x : Str} {C : Addr} {np cpos pos : Pos} {e : Expr} {es : List Expr} {t : TA}
noncomputable def Ji (C : Addr) (E : XK) (t : TA) : TS := fun _ σ H => t σ H fun vs H1 => vs.length ≤ sizeLine ∧ E (.ref C) none H1
theorem BG (hp : XA X E) (hc : X.calm = true) (q : Fn X.K C) (hg : Gl X x) (hm : X.mg x = some (.ref C)) (ha : PA X (e :: es) t) (hdb : (x == ("__debug__" : Str)) = false := by decide)
  (he : starEach (e :: es) X.env = (false, eval e X.env) :: starEach es X.env := by rfl) (hpl : (backTo cpos (starEach es X.env)).any (·.1) = false := by rfl) :
  PS X (.Raise (some (.Call (.Name x np) (e :: es) [] cpos)) none pos) (Ji C E t) := by
 intro pins s σ H D I h
 obtain ⟨tl, N, nm, q', bs, hdct, sn, sub, ab, col, dd, k0, k1, k2, k3, k5, mN, hC, hN, hni, T⟩ := (Fn.own q I.mod.kin hm).obj
 refine wpAny_Raise_call_subT (C := C) (nm := nm) (q := q') (N := N) (bs := bs) (bm := tl) (hdct := hdct) (sn := sn) (sub := sub) (ab := ab) (col := col) (dd := dd) (k0 := k0) (k1 := k1) (k2 := k2) (k3 := k3) (k5 := k5)
  PySem.F.excBase_ValueError (mN := mN) (T.hasType PySem.F.excBase_ValueError.hasBase) (I.ok.hd hc) (by rw [he]; show (false || (backTo cpos (starEach es X.env)).any (·.1)) = false; rw [hpl]; rfl) hni (Kd I hg hm ⟨rfl, ?_⟩ hdb)
 have hs := ha cpos pins s σ H _ I h
 rw [he] at hs ⊢
 refine Calls.evalArgs_plain (thn hs fun us s1 zq => ?_)
 obtain ⟨vs, H1, I1, r, z, hE⟩ := zq
 exact ⟨rfl, by rw [← r.length]; exact z, I1.bk _ _ hC, hN.keeps I1.bk, T.keeps I1.bk, fun h' ea hx => hp pins σ H1 s1 h' ea (.ref C) us I1 hx hE⟩
end
noncomputable def Qs (X : Cx) (N : Value → St → Hp → Prop) : Prop := ∀ (pins : List (Addr × Obj)) (σ : St) (H : Hp) (s : Shared) (e : Value) (s' : Shared), Inv X pins σ H s → CXE X.prog X.w X.stack H s (fun cls _ H' => N cls σ H') e s' → X.xe e s'
section
variable {X : Cx} {k : Nat} {f C : Addr} {fd : FuncData} {ps : List Str} {sp : Sp} {dvs : List V} {ds : List Value} {N : Value → St → Hp → Prop} {x m : Str} {p pos apos : Pos} {e o : Expr} {es : List Expr} {ta : TE} {t : TA}
theorem Ss {pins : List (Addr × Obj)} {σ : St} {H : Hp} {s : Shared} {Q : VK} {us : List Value} {vs : List V} (F : Af X.prog X.w X.K X.mg X.base (CXE X.prog X.w) k f fd ps sp) (hr : CF k X.A) (hb : Binds X.K fd ps ds) (hd : Al dvs ds) (hx : Qs X N)
  (I : Inv X pins σ H s) (r : Al vs us) (h : sp (vs ++ dvs) H Q (fun cls _ H' => N cls σ H')) : wpAny (model X.prog X.w) X.A (call (.ref f) us) (EP X pins σ Q) X.xe s := by
 have r2 : Al (vs ++ dvs) (us ++ ds) := r.append hd
 have hl : (us ++ ds).length = ps.length := by rw [← r2.length]; exact F.len _ _ _ _ h
 refine wpAny_call (codeAny_mono (F.run X.A X.stack s H ⟨us, []⟩ (us ++ ds) (vs ++ dvs) Q _ hr I.env0 (hb s us I.kIn hl) r2 h) fun r s' hq => ?_)
 cases r with
 | error e => exact hx pins σ H s e s' I hq
 | ok fl =>
  cases fl with
  | ret u => exact I.after hq
  | next => exact False.elim hq
  | brk => exact False.elim hq
  | cont => exact False.elim hq
noncomputable def SD (C : Addr) (m : Str) (sp : Sp) (dvs : List V) (N : Value → St → Hp → Prop) (ta : TE) (t : TA) : TE := fun σ H Q => ta σ H fun x H1 => ∃ a dx fs, x = .ref a ∧ H1 a = some (.ins C dx fs) ∧ fs.lookup m = none ∧
 t σ H1 fun vs H2 => sp (x :: (vs ++ dvs)) H2 Q (fun cls _ H' => N cls σ H')
theorem Hi {pl : Sem Bool} (he : PE X o ta) (c : Cls X.K C) (hm : Rz X.K C m f) (F : Af X.prog X.w X.K X.mg X.base (CXE X.prog X.w) k f fd ps sp) (hr : CF k X.A) (hb : Binds X.K fd ps ds) (hd : Al dvs ds) (hx : Qs X N) (ha : PA X (e :: es) t)
  (hst : starEach (e :: es) X.env = (false, eval e X.env) :: starEach es X.env := by rfl) (hpl : (backTo pos (starEach es X.env)).any (·.1) = false := by rfl)
  (ht : eval (.Call (.Attribute o m apos) (e :: es) [] pos) X.env = (do
   let ov ← eval o X.env
   standAt apos.atName
   let (f, first) ← holding [ov] (getMethod ov m pl)
   callWith pos f first (backTo pos (starEach (e :: es) X.env)) (backToKw pos (keywordEach [] X.env))) := by rfl) :
  PE X (.Call (.Attribute o m apos) (e :: es) [] pos) (SD C m sp dvs N ta t) := by
 intro pins s σ H Q I h
 refine W.methodCall_KW (pl := pl) (thn (he pins s σ H _ I h) fun u s1 zq => ?_) ht
 obtain ⟨x, H1, I1, rx, a, dx, fs, ex, ea, l, q⟩ := zq
 subst ex
 obtain rfl : u = Value.ref a := rx
 refine Ft I1 ea c hm l ?_
 refine W.callWith_K (first := [.ref a]) (h₀ := X.base) I.ok.mod.kin hm.kp (thn (ha pos pins s1 σ H1 _ I1 q) fun us s2 ⟨vs, H2, I2, r, q2⟩ => ⟨I2.kIn, ?_⟩) hst hpl
 exact Ss (us := .ref a :: us) (vs := .ref a :: vs) F hr hb hd hx I2 (.cons rfl r) q2
theorem UC {pl : Sem Bool} (he : PE X o ta) (c : Cls X.K C) (hm : Rz X.K C m f) (F : Af X.prog X.w X.K X.mg X.base (CXE X.prog X.w) k f fd ps sp) (hr : CF k X.A) (hb : Binds X.K fd ps ds) (hd : Al dvs ds) (hx : Qs X N)
  (ht : eval (.Call (.Attribute o m apos) [] [] pos) X.env = (do
   let ov ← eval o X.env
   standAt apos.atName
   let (f, first) ← holding [ov] (getMethod ov m pl)
   callWith pos f first (backTo pos (starEach [] X.env)) (backToKw pos (keywordEach [] X.env))) := by rfl) :
  PE X (.Call (.Attribute o m apos) [] [] pos) (SD C m sp dvs N ta K9) := by
 intro pins s σ H Q I h
 refine W.methodCall_KW (pl := pl) (thn (he pins s σ H _ I h) fun u s1 zq => ?_) ht
 obtain ⟨x, H1, I1, rx, a, dx, fs, ex, ea, l, q⟩ := zq
 subst ex
 obtain rfl : u = Value.ref a := rx
 refine Ft I1 ea c hm l ?_
 exact W.callWith_K0 (first := [.ref a]) I1.kIn hm.kp (Ss (us := [.ref a]) (vs := [.ref a]) F hr hb hd hx I1 (.cons rfl .nil) q)
end
noncomputable abbrev Cx.caught (X : Cx) (e : Value) (pn : List (Addr × Obj)) : Cx := { X with A := X.A.mark (some e), calm := false, pn := pn, xe := fun _ _ => False }
noncomputable abbrev Cx.trying (X : Cx) (pn : List (Addr × Obj)) (E : Value → Shared → Prop) : Cx := { X with pn := pn, xe := E }
theorem Inv.caught {X : Cx} {pins : List (Addr × Obj)} {σ : St} {H : Hp} {s : Shared} (I : Inv X pins σ H s) (e : Value) : Inv (X.caught e (X.pn ++ pins)) [] σ H s :=
 ⟨⟨I.ok.mod, I.ok.kind, I.ok.glob, I.ok.blt, I.ok.above, I.ok.inj, I.ok.has, I.ok.cab, (fun z => nomatch z), I.ok.frames, I.ok.stk, I.ok.exf, I.ok.bs, I.ok.bsz, I.ok.noex, I.ok.exfs, I.ok.funs, I.ok.frf⟩, I.os, I.bare, I.base, I.loc, I.cell, I.free, I.freeC, fun p hp => I.pin p (by simpa using hp), I.hok, I.len⟩
theorem Inv.uncaught {X : Cx} {pins : List (Addr × Obj)} {σ : St} {H : Hp} {s : Shared} {e : Value} (ok : X.Ok) (I : Inv (X.caught e (X.pn ++ pins)) [] σ H s) : Inv X pins σ H s :=
 ⟨ok, I.os, I.bare, I.base, I.loc, I.cell, I.free, I.freeC, fun p hp => I.pin p (by simpa using hp), I.hok, I.len⟩
theorem Inv.trying {X : Cx} {pins : List (Addr × Obj)} {σ : St} {H : Hp} {s : Shared} (I : Inv X pins σ H s) (E : Value → Shared → Prop) : Inv (X.trying (X.pn ++ pins) E) [] σ H s :=
 ⟨⟨I.ok.mod, I.ok.kind, I.ok.glob, I.ok.blt, I.ok.above, I.ok.inj, I.ok.has, I.ok.cab, I.ok.hd, I.ok.frames, I.ok.stk, I.ok.exf, I.ok.bs, I.ok.bsz, I.ok.noex, I.ok.exfs, I.ok.funs, I.ok.frf⟩, I.os, I.bare, I.base, I.loc, I.cell, I.free, I.freeC, fun p hp => I.pin p (by simpa using hp), I.hok, I.len⟩
theorem Inv.tried {X : Cx} {pins more : List (Addr × Obj)} {σ : St} {H : Hp} {s : Shared} {E : Value → Shared → Prop} (ok : X.Ok) (I : Inv (X.trying (X.pn ++ pins) E) more σ H s) : Inv X pins σ H s :=
 ⟨ok, I.os, I.bare, I.base, I.loc, I.cell, I.free, I.freeC, fun p hp => I.pin p (zz _ hp), I.hok, I.len⟩
noncomputable def tHs (K : W.Frag) : List (Value × TS) → Value → Gn → St → Hp → Prop
 | [], _, _, _, _ => False
 | (c, th) :: r, cls, D, σ, H => ∃ b, W.exmOne K cls c = some b ∧ if b = true then th D σ H else tHs K r cls D σ H
inductive PHs (X : Cx) : List ExceptHandler → List (Value × TS) → Prop
 | nil : PHs X [] []
 | cons {x : Str} {c : Value} {np pos : Pos} {b₀ : Stmt} {suite : List Stmt} {th : TS} {hs : List ExceptHandler} {ths : List (Value × TS)} (hg : Gl X x) (hm : X.mg x = some c) (hd : (x == ("__debug__" : Str)) = false)
   (hb : ∀ e pn, PSs (X.caught e pn) (b₀ :: suite) th) (r : PHs X hs ths) : PHs X (.ExceptHandler (some (.Name x np)) none (b₀ :: suite) pos :: hs) ((c, th) :: ths)
section
variable {X : Cx} {pins : List (Addr × Obj)} {D : Gn}
theorem SP.map {X Y : Cx} {pins pins' : List (Addr × Obj)} {D : Gn} {f : Flow} {s : Shared} (k : ∀ σ H, Inv X pins σ H s → Inv Y pins' σ H s) (h : SP X pins D f s) : SP Y pins' D f s := by
 cases f with
 | next => obtain ⟨σ, H, I, q⟩ := h; exact ⟨σ, H, k _ _ I, q⟩
 | brk => obtain ⟨σ, H, I, q⟩ := h; exact ⟨σ, H, k _ _ I, q⟩
 | cont => obtain ⟨σ, H, I, q⟩ := h; exact ⟨σ, H, k _ _ I, q⟩
 | ret u => obtain ⟨v, σ, H, I, r, q⟩ := h; exact ⟨v, σ, H, k _ _ I, r, q⟩
theorem Nc (hfr : X.env.frame = some X.env.locals) (hst : X.stack = X.env :: X.outer) {ea : Addr} {cls : Value} : ∀ {hs : List ExceptHandler} {ths : List (Value × TS)}, PHs X hs ths → ∀ {σ : St} {H : Hp} {s : Shared}, Arr X pins σ ea cls H s → tHs X.K ths cls D σ H →
  wpAny (model X.prog X.w) X.A (handleBy (.ref ea) X.env hs) (SP X pins D) X.xe s
 | _, _, .nil, _, _, _, _, h => h.elim
 | _, _, .cons (x := x) (c := c) (b₀ := b₀) (suite := suite) (th := th) hg hm hd hb r, σ, H, s, a, h => by
  obtain ⟨I, H1, s1, I1, B, a0, fl, c1, c2⟩ := a
  obtain ⟨b, hx, hq⟩ := h
  refine wpAny_handleBy_cons ?_ (by intro q; cases q)
  refine codeAny_handlers_test ?_
  have Ic := I.caught (.ref ea)
  refine Kd (X := X.caught (.ref ea) (X.pn ++ pins)) Ic hg hm ?_ hd
  obtain ⟨ob, hob, hc⟩ := fl.there
  have LT : W.Looks (model X.prog X.w) s.heap (typeOf (.ref ea)) cls := by
   subst hc
   exact (W.Looks.ld hob).andThen .now
  refine (W.exm_one I.kIn LT hx).here ?_
  cases b with
  | false =>
   exact Nc hfr hst r ⟨I, H1, s1, I1, B, a0, fl, c1, c2⟩ (by simpa using hq)
  | true =>
   rw [if_pos rfl] at hq
   refine codeAny_handlers_suite ?_
   refine lands_againW fl fun h6 fl6 up6 => ?_
   have I6 : Inv X pins σ H { s with heap := h6 } := Inv.fly I1 I fl.1 fl6.1 up6 c1 c2
   refine DC (thn (hb (.ref ea) (X.pn ++ pins) [] _ σ H D (I6.caught _) hq) fun f s2 h2 => ?_)
   exact SP.map (fun _ _ J => J.uncaught I.ok) h2
noncomputable def lookX (X : Cx) (pins : List (Addr × Obj)) (D : Gn) (hs : List ExceptHandler) : Value → Shared → Prop := fun e s1 => wpAny (model X.prog X.w) X.A (noteFrame e X.env) (fun _ s2 => wpAny (model X.prog X.w) X.A (setFlight e none) (fun _ s3 =>
 wpAny (model X.prog X.w) X.A (handleBy e X.env hs) (SP X pins D) X.xe s3) X.xe s2) X.xe s1
noncomputable def tTry (K : W.Frag) (tb : (Value → St → Hp → Prop) → TS) (ths : List (Value × TS)) : TS := fun D σ H => tb (fun cls σ' H' => tHs K ths cls D σ' H') D σ H
theorem Yw {body : List Stmt} {h₀ : ExceptHandler} {hs : List ExceptHandler} {ths : List (Value × TS)} {tb : (Value → St → Hp → Prop) → TS} {pos : Pos} (hfr : X.env.frame = some X.env.locals) (hst : X.stack = X.env :: X.outer)
  (hb : ∀ N pn xe, Qs (X.trying pn xe) N → PSs (X.trying pn xe) body (tb N)) (hh : PHs X (h₀ :: hs) ths) : PS X (.Try body (h₀ :: hs) [] [] pos) (tTry X.K tb ths) := by
 intro pins s σ H D I h
 refine wpAny_Try_except ?_
 have pass : Qs (X.trying (X.pn ++ pins) (lookX X pins D (h₀ :: hs))) (fun cls σ' H' => tHs X.K ths cls D σ' H') := fun pins' σ' H1 s1 e s' I' hx => by
  obtain ⟨ea, cls, H', rfl, a, hN⟩ := VE I' hx
  obtain ⟨J, H2, s2, J2, B, a0, fl, c1, c2⟩ := a
  have J' : Inv X pins σ' H' s' := J.tried I.ok
  have J2' : Inv X pins σ' H2 s2 := J2.tried I.ok
  have fl : Heap.FlyingW B X.stack ea cls a0 s'.heap := fl
  have c1 : ∀ b o, s2.heap.get? b = some o → b ∉ frs X.stack → ∃ o', B.get? b = some o' := c1
  rw [hst] at fl
  refine wpAny_looks_onW (A := X.A) (by rw [I.ok.frames, hst]) hfr fl fun h4 held4 up4 => ?_
  refine wpAny_landsW held4 fun h5 fl5 up5 => ?_
  have up := up4.trans up5
  have I5 : Inv X pins σ' H' { s' with heap := h5 } := Inv.fly J2' J' fl.1 fl5.1 up c1 c2
  refine Nc hfr hst hh ⟨I5, H2, s2, J2', B, a0, by rw [hst]; exact fl5, c1, c2⟩ hN
 refine wpAny_mono (hb _ _ _ pass [] s σ H D (I.trying _) h) (fun f s1 h1 => ?_) fun e s1 h1 => h1
 have h1 : SP X pins D f s1 := SP.map (fun _ _ J => J.tried I.ok) h1
 cases f with
 | next => exact wpAny_execs_nil h1
 | brk => exact h1
 | cont => exact h1
 | ret u => exact h1
end
theorem Sn : ∀ {us : List Value} {ns : List Int}, IntsAre us ns → Al (ns.map V.int) us
 | _, _, .nil => .nil
 | _, _, .cons n t r => .cons ⟨t, rfl⟩ (Sn r)
section
variable {X : Cx}
theorem U4 {pins : List (Addr × Obj)} {σ : St} {H : Hp} {s : Shared} {Q : VK} {ns ns' : List Int} {out : List Value} {h' : Heap} {D : Addr} {c tk : Nat} (I : Inv X pins σ H s) (hD : s.heap.objs.size ≤ D) (kp : ∀ b o, s.heap.get? b = some o → h'.get? b = some o)
  (hat : h'.get? D = some (seqObj "list" out.toArray c)) (a1 : IntsAre out ns') (a2 : ns'.Perm ns) (hl : ns.length < 64) (q : H D = none → AI H (upd H D (.lst (ns'.map V.int))) → upd H D (.lst (ns'.map V.int)) D = some (.lst (ns'.map V.int)) → Q (.ref D) (upd H D (.lst (ns'.map V.int)))) :
  EP X pins σ Q (.ref D) { s with heap := h', toks := tk } := by
 have hfr : H D = none := I.hok.fresh hD
 have hv := Sn a1
 refine ⟨.ref D, _, I.laid (t' := tk) (o := .lst (ns'.map V.int)) kp hD ⟨by rw [z5, a2.length_eq, PySem.sizeLine_eq]; lia, out, c, hv, hat⟩, rfl, q hfr (Aw hfr) AN⟩
noncomputable def NK (K : W.Frag) : List V → Hp → VK → Prop := fun xs H Q => ∃ d, xs = [.ref d] ∧ ∃ (kvs : List (Key × V)) (ks : List Int), H d = some (.dK kvs) ∧ kvs.map (·.1) = ks.map Sum.inl ∧ ks.length < 64 ∧
 ∀ (D : Addr) (H' : Hp) (ks' : List Int), H D = none → AI H H' → H' D = some (.lst (ks'.map V.int)) → ks'.Perm ks → ks'.Pairwise (· ≤ ·) → Q (.ref D) H'
theorem Js : ∀ {us : List Value} {ks : List Int}, us.length = ks.length → (∀ (j : Nat) (u : Value), us[j]? = some u → ∃ k : Int, ks[j]? = some k ∧ ∃ t, u = Value.int k t) → IntsAre us ks
 | [], [], _, _ => .nil
 | [], _ :: _, h, _ => by simp at h
 | _ :: _, [], h, _ => by simp at h
 | u :: us, k :: ks, h, hj => by
  obtain ⟨k', e1, t, e2⟩ := hj 0 u rfl
  have e1 : k = k' := by simpa using e1
  subst e1 e2
  exact .cons k t (Js (by simpa using h) fun j u hu => by simpa using hj (j + 1) u (by simpa using hu))
theorem Dl (hc : X.calm = true) : Bl X (.builtin "sorted") (NK X.K) := by
 intro pins s σ H xs us Q I r h
 obtain ⟨d, rfl, kvs, ks, hd, hk, h64, q⟩ := h
 obtain ⟨u, rfl, ru⟩ := vals1 r
 cases ru
 obtain ⟨hz, lo, vs, kv, hD⟩ := I.hok d _ hd
 obtain ⟨ep, hat⟩ := hD.dictAt
 have lkv := Paired.length kv
 have lks : kvs.length = ks.length := by have := congrArg List.length hk; simpa using this
 refine Calls.call_function_entry kind_sorted plain_sorted entry_sorted (args_sorted1 _) ?_
 unfold Builtin.«sorted»
 refine wpAny_bind (m := checkCount "sorted" 1 1 _) (wpAny_pure ?_)
 refine wpAny_bind (W.kdu_collect (A := X.A.in1) (W.kdl_dict (knd := A8 X.prog X.w) (kvs := vs) (ep := ep) lo) (I.ok.hd hc) hat (by rw [← lkv]; exact hz) fun h' tk acc hkk hacc => ?_)
 have hint : IntsAre acc.toList ks := by
  refine Js (by rw [Array.length_toList, hacc.1, ← lkv, lks]) fun j u hu => ?_
  obtain ⟨k, x, hx, hki⟩ := hacc.2 j u (by rw [← Array.getElem?_toList]; exact hu)
  have hj : j < kvs.length := by
   have := (zA.mp hx).1
   lia
  obtain ⟨p, hp, e1, e2⟩ := (show ∃ p, kvs[j]? = some p ∧ p.1 = k ∧ RelV p.2 x from by
   obtain ⟨p, h1, h2⟩ := TG.Paired.get kv hx
   exact ⟨p, h1, h2⟩)
  have hkj : (ks.map (Sum.inl : Int → Key))[j]? = some k := by rw [← hk, zJ, hp]; exact congrArg some e1
  rw [zJ] at hkj
  obtain ⟨i, hi, rfl⟩ := ze.mp hkj
  refine ⟨i, hi, ?_⟩
  have hki : N2 (Sum.inl i) u = true := hki
  rcases BC hki with ⟨i', t, e3, e4⟩ | ⟨y, t, e3, e4⟩
  ·injection e3 with e3
   subst e3
   exact ⟨t, e4⟩
  ·cases e3
 have hal : acc.toList.length = ks.length := by rw [Array.length_toList, hacc.1, ← lkv, lks]
 refine wpAny_bind (wpAny_newList ?_ (by rw [hal, PySem.sizeLine_eq]; lia))
 have hoL : (h'.push (seqObj "list" acc.toList.toArray 0)).get? h'.objs.size = some (seqObj "list" acc.toList.toArray 0) := zY _ rfl
 show wpAny _ _ _ _ _ { s with heap := h'.push (seqObj "list" acc.toList.toArray 0), toks := tk }
 refine wpAny_bind (wpAny_holding (wpAny_call_entry slot_list_sort ⟨_, hoL, rfl⟩ entry_list_sort (list_sort_tree hoL hint (by lia) fun out ns' a1 a2 a3 => ⟨_, rfl, ?_⟩) (args_list_sort _)))
 obtain ⟨e, he⟩ := sortedHeap_at (vs := acc.toList) (out := out) hoL
 have I' : Inv X pins σ H { s with heap := h', toks := tk } := I.kept hkk
 refine wpAny_pure ⟨_, rfl, U4 (s := { s with heap := h', toks := tk }) (tk := tk) I' (zG _) (fun b o q' => ?_) (by rw [he]) a1 a2 h64 fun n1 n2 n3 => q _ _ _ n1 n2 n3 a2 a3⟩
 have q' : h'.get? b = some o := q'
 have hlt := zH q'
 refine (sortedHeap_old (zX hlt) (by rw [size_push']; exact Nat.lt_succ_of_lt hlt)).trans ?_
 exact zB _ q'
end
theorem len0 {α : Type} {us : List α} (h : us.length = 0) : us = [] := List.length_eq_zero_iff.mp h
theorem US {α : Type} {us : List α} {n : Nat} (h : us.length = n + 1) : ∃ a r, us = a :: r ∧ r.length = n := by
 cases us with
 | nil => cases h
 | cons a r => exact ⟨a, r, rfl, Nat.succ.inj h⟩
theorem YL {α : Type} {us : List α} (h : us.length = 1) : ∃ a, us = [a] := by
 obtain ⟨a, r, rfl, h'⟩ := US h; cases len0 h'; exact ⟨a, rfl⟩
theorem ZG {α : Type} {us : List α} (h : us.length = 2) : ∃ a b, us = [a, b] := by
 obtain ⟨a, r, rfl, h'⟩ := US h; obtain ⟨b, rfl⟩ := YL h'; exact ⟨a, b, rfl⟩
theorem Vl {α : Type} {us : List α} (h : us.length = 3) : ∃ a b c, us = [a, b, c] := by
 obtain ⟨a, r, rfl, h'⟩ := US h; obtain ⟨b, c, rfl⟩ := ZG h'; exact ⟨a, b, c, rfl⟩
theorem len4 {α : Type} {us : List α} (h : us.length = 4) : ∃ a b c d, us = [a, b, c, d] := by
 obtain ⟨a, r, rfl, h'⟩ := US h; obtain ⟨b, c, d, rfl⟩ := Vl h'; exact ⟨a, b, c, d, rfl⟩
theorem len5 {α : Type} {us : List α} (h : us.length = 5) : ∃ a b c d e, us = [a, b, c, d, e] := by
 obtain ⟨a, r, rfl, h'⟩ := US h; obtain ⟨b, c, d, e, rfl⟩ := len4 h'; exact ⟨a, b, c, d, e, rfl⟩
theorem len6 {α : Type} {us : List α} (h : us.length = 6) : ∃ a b c d e f, us = [a, b, c, d, e, f] := by
 obtain ⟨a, r, rfl, h'⟩ := US h; obtain ⟨b, c, d, e, f, rfl⟩ := len5 h'; exact ⟨a, b, c, d, e, f, rfl⟩
end L2
namespace TG
open PySem L2
inductive Err where
 | nogate | taken | upside | bounds | full | deeds | nothing | badlist | few | size | badthrow | badrow
 deriving DecidableEq
noncomputable def Kp (b P : Addr) (H H' : Hp) : Prop := ∀ a u, a ≠ b → a ≠ P → H a = some u → H' a = some u
theorem Kp.of {b P : Addr} {H H' : Hp} (s : AI H H') : Kp b P H H' := fun a u _ _ e => s a u e
theorem Kp.trans {b P : Addr} {H H1 H2 : Hp} (k : Kp b P H H1) (k' : Kp b P H1 H2) : Kp b P H H2 := fun a u h1 h2 e => k' a u h1 h2 (k a u h1 h2 e)
theorem Kp.upd {b P a : Addr} {H H1 : Hp} {o : HO} (k : Kp b P H H1) (h : a = b ∨ a = P) : Kp b P H (L2.upd H1 a o) := fun c u h1 h2 e => by
 have hc : c ≠ a := by rcases h with rfl | rfl <;> assumption
 rw [AL hc]
 exact k c u h1 h2 e
noncomputable def Vr (H : Hp) (l : Addr) (gs : List G) : Prop := ∃ as : List Addr, H l = some (.lst (as.map V.ref)) ∧ Ak H as gs
structure Std (gs : List G) : Prop where
 asc : Asc gs
 ok : ∀ g ∈ gs, OkG g
 len : gs.length ≤ 40
theorem UN {gs : List G} (h : Asc gs) : (gs.map G.p).Nodup := by
 unfold List.Nodup
 rw [qC]
 exact h.imp fun {a b} h z => by lia
theorem Std.nd {gs : List G} (h : Std gs) : (gs.map G.p).Nodup := UN h.asc
structure Bch (C : Addr) (H : Hp) (b S P : Addr) (ow : List Addr) (gs : List G) (past : List (List G)) : Prop where
 at_ : ∃ dx, H b = some (.ins C dx [("standing", .ref S), ("past", .ref P)])
 st : Vr H S gs
 pa : ∃ ps : List Addr, H P = some (.lst (ps.map V.ref)) ∧ Paired (Vr H) ps past ∧ (∀ p ∈ ps, p ∈ ow ∧ p ≠ P)
 sp : S ≠ P
 so : S ∈ ow
 po : P ∈ ow
 std : Std gs
 stds : ∀ x ∈ past, Std x
 len : past.length ≤ 300
 lv : ∀ a ∈ ow, ∃ xs, H a = some (.lst xs)
theorem Ak.keep {H H' : Hp} {as : List Addr} {gs : List G} (h : Ak H as gs) (k : ∀ a xs, H a = some (.tup xs) → H' a = some (.tup xs)) : Ak H' as gs := by
 unfold Ak at *
 induction h with
 | nil => exact .nil
 | cons e _ ih => exact .cons (k _ _ e) ih
theorem Vr.keep {H H' : Hp} {l : Addr} {gs : List G} (h : Vr H l gs) (kl : ∀ u, H l = some u → H' l = some u) (k : ∀ a xs, H a = some (.tup xs) → H' a = some (.tup xs)) : Vr H' l gs := by
 obtain ⟨as, e, g⟩ := h
 exact ⟨as, kl _ e, g.keep k⟩
theorem Paired.keepM {α β : Type} {F F' : α → β → Prop} : ∀ {xs : List α} {ys : List β}, Paired F xs ys → (∀ x y, x ∈ xs → F x y → F' x y) → Paired F' xs ys
 | _, _, .nil, _ => .nil
 | _, _, .cons e r, k => .cons (k _ _ zR e) (Paired.keepM r fun x y h => k x y (zD _ h))
theorem Paired.takeP {α β : Type} {F : α → β → Prop} : ∀ {xs : List α} {ys : List β}, Paired F xs ys → ∀ n, Paired F (xs.take n) (ys.take n)
 | _, _, .nil, n => by simp only [List.take_nil]; exact .nil
 | _, _, .cons e r, 0 => .nil
 | _, _, .cons e r, n + 1 => .cons e (Paired.takeP r n)
theorem Bch.keep {C : Addr} {H H' : Hp} {b S P : Addr} {ow : List Addr} {gs : List G} {past : List (List G)} (h : Bch C H b S P ow gs past) (k : ∀ a u, (a = b ∨ a ∈ ow ∨ ∃ xs, u = .tup xs) → H a = some u → H' a = some u) : Bch C H' b S P ow gs past := by
 have kt : ∀ a xs, H a = some (.tup xs) → H' a = some (.tup xs) := fun a xs e => k a _ (.inr (.inr ⟨xs, rfl⟩)) e
 obtain ⟨dx, e⟩ := h.at_
 obtain ⟨ps, e2, pr, hm⟩ := h.pa
 exact ⟨⟨dx, k _ _ (.inl rfl) e⟩, h.st.keep (fun u e => k _ u (.inr (.inl h.so)) e) kt, ⟨ps, k _ _ (.inr (.inl h.po)) e2, Paired.keepM pr fun x y hx q => q.keep (fun u e => k _ u (.inr (.inl (hm x hx).1)) e) kt, hm⟩, h.sp, h.so, h.po, h.std, h.stds, h.len, fun a ha => (h.lv a ha).imp fun xs e => k a _ (.inr (.inl ha)) e⟩
theorem Bch.same {C : Addr} {H H' : Hp} {b S P : Addr} {ow : List Addr} {gs : List G} {past : List (List G)} (h : Bch C H b S P ow gs past) (s : AI H H') : Bch C H' b S P ow gs past := h.keep fun a u _ e => s a u e
noncomputable def DG (gs : List G) (p : Int) (o : List G) : List G := (gs.filter fun g => decide (g.p < p)) ++ (o ++ (gs.filter fun g => decide (p < g.p)))
theorem Qu {gs : List G} {p : Int} {o : List G} (h : Asc gs) (ho : Asc o) (hp : ∀ g ∈ o, g.p = p) : Asc (DG gs p o) := by
 unfold DG Asc at *
 refine List.pairwise_append.mpr ⟨h.filter _, List.pairwise_append.mpr ⟨ho, h.filter _, fun a ha b hb => ?_⟩, fun a ha b hb => ?_⟩
 ·have := z6 (qE.mp hb).2
  rw [hp a ha]; exact this
 ·have h1 := z6 (qE.mp ha).2
  rcases zb.mp hb with z | z
  ·rw [hp b z]; exact h1
  ·have := z6 (qE.mp z).2
   lia
theorem HN {gs : List G} {p : Int} {o : List G} {g : G} : g ∈ DG gs p o ↔ (g ∈ gs ∧ g.p ≠ p) ∨ g ∈ o := by
 unfold DG
 simp only [zb, qE, decide_eq_true_eq]
 constructor
 ·rintro (⟨h, q⟩ | h | ⟨h, q⟩)
  ·exact .inl ⟨h, by lia⟩
  ·exact .inr h
  ·exact .inl ⟨h, by lia⟩
 ·rintro (⟨h, q⟩ | h)
  ·rcases Int.lt_or_gt_of_ne q with z | z
   ·exact .inl ⟨h, z⟩
   ·exact .inr (.inr ⟨h, z⟩)
  ·exact .inr (.inl h)
theorem FS {gs : List G} {p : Int} {o : List G} : (DG gs p o).Perm ((gs.filter fun g => !decide (g.p = p)) ++ o) := by
 unfold DG
 have h : ((gs.filter fun g => decide (g.p < p)) ++ (gs.filter fun g => decide (p < g.p))).Perm (gs.filter fun g => !decide (g.p = p)) := by
  induction gs with
  | nil => exact zx _
  | cons a gs ih =>
   simp only [zo]
   rcases Int.lt_trichotomy a.p p with z | z | z
   ·simp only [z8 z, show decide (p < a.p) = false from za (by lia), show decide (a.p = p) = false from za (by lia), if_true, Bool.not_false, zn, if_false, List.cons_append]
    exact ih.cons _
   ·simp only [show decide (a.p < p) = false from za (by lia), show decide (p < a.p) = false from za (by lia), z8 z, Bool.not_true, zn, if_false]
    exact ih
   ·simp only [show decide (a.p < p) = false from za (by lia), z8 z, show decide (a.p = p) = false from za (by lia), if_true, Bool.not_false, zn, if_false]
    exact List.perm_middle.trans (ih.cons _)
 exact (List.perm_append_comm_assoc _ _ _).trans ((h.append_left o).trans List.perm_append_comm)
theorem M5 {gs : List G} {p : Int} {o : List G} : (DG gs p o).length = (gs.filter fun g => !decide (g.p = p)).length + o.length := by
 rw [FS.length_eq, zC]
noncomputable abbrev AT (gs : List G) : List Int := gs.map G.p
noncomputable def Ap (gs : List G) (p : Int) : Option G := gs.find? fun g => decide (g.p = p)
theorem Bc {gs : List G} {p : Int} {g : G} (h : Ap gs p = some g) : g ∈ gs ∧ g.p = p := by
 have h1 := List.mem_of_find?_eq_some h
 have h2 := List.find?_some h
 exact ⟨h1, z6 h2⟩
theorem CM {gs : List G} {p : Int} : Ap gs p = none ↔ p ∉ AT gs := by
 unfold Ap AT
 rw [List.find?_eq_none]
 constructor
 ·intro h z
  obtain ⟨g, hg, e⟩ := zf.mp z
  exact h g hg (z8 e)
 ·intro h g hg z
  exact h (zf.mpr ⟨g, hg, z6 z⟩)
theorem Hw {gs : List G} (ha : Asc gs) {g : G} (hg : g ∈ gs) : Ap gs g.p = some g := by
 cases h : Ap gs g.p with
 | none => exact absurd (zf.mpr ⟨g, hg, rfl⟩) (CM.mp h)
 | some x =>
  obtain ⟨h1, h2⟩ := Bc h
  rw [Nt ha h1 hg h2]
noncomputable abbrev InB (x : Int) : Prop := -1000 ≤ x ∧ x ≤ 1000
noncomputable def DY (p f h : Int) : Option Err := if h < f then some .upside else if InB p ∧ InB f ∧ InB h then none else some .bounds
theorem GF {p f h : Int} : DY p f h = none ↔ OkG ⟨p, f, h⟩ := by
 unfold DY
 constructor
 ·intro z
  split at z
  ·cases z
  ·split at z
   ·rename_i h1 h2
    obtain ⟨⟨a, b⟩, ⟨c, d⟩, e, f1⟩ := h2
    exact ⟨a, b, c, by show f ≤ h; lia, f1⟩
   ·cases z
 ·rintro ⟨a, b, c, d, e⟩
  rw [if_neg (by simp only at *; lia), if_pos (by simp only at *; unfold InB; lia)]
noncomputable def Jd (gs : List G) (past : List (List G)) (p f h : Int) : Option Err :=
 if p ∈ AT gs then some .taken else (DY p f h).or (if 40 ≤ gs.length then some .full else if 300 ≤ past.length then some .deeds else none)
noncomputable def DU (past : List (List G)) : Option Err := if 300 ≤ past.length then some .deeds else none
noncomputable def Gg (gs : List G) (past : List (List G)) (p : Int) : Option Err := if p ∈ AT gs then DU past else some .nogate
noncomputable def Db (gs : List G) (past : List (List G)) (p x y : Int) : Option Err := match Ap gs p with
 | none => some .nogate
 | some g => (DY p (g.f + x) (g.h + y)).or (DU past)
noncomputable def JO (past : List (List G)) (n : Int) : Option Err := if n < 1 then some .bounds else if past.length < n then some .nothing else none
theorem Std.put {gs : List G} {p f h : Int} (s : Std gs) (ok : OkG ⟨p, f, h⟩) (hl : (gs.filter fun g => !decide (g.p = p)).length < 40) : Std (DG gs p [⟨p, f, h⟩]) where
 asc := Qu s.asc (List.pairwise_singleton ..) fun g hg => by rw [zK.mp hg]
 ok := fun g hg => by
  rcases HN.mp hg with z | z
  ·exact s.ok g z.1
  ·rw [zK.mp z]; exact ok
 len := by rw [M5]; simp only [List.length_singleton]; lia
theorem Std.take {gs : List G} {p : Int} (s : Std gs) : Std (DG gs p []) where
 asc := Qu s.asc List.Pairwise.nil fun g hg => absurd hg (by simp)
 ok := fun g hg => by
  rcases HN.mp hg with z | z
  ·exact s.ok g z.1
  ·exact absurd z (by simp)
 len := by
  rw [M5]
  have := zw (fun g : G => !decide (g.p = p)) gs
  have := s.len
  simp only [zP]; lia
theorem YO {gs : List G} {g : G} (hg : g ∈ gs) : (gs.filter fun x => !decide (x.p = g.p)).length < gs.length :=
 List.length_filter_lt_length_iff_exists.mpr ⟨g, hg, by simp⟩
theorem RU {gs : List G} {p : Int} (hp : p ∉ AT gs) : (gs.filter fun x => !decide (x.p = p)) = gs :=
 List.filter_eq_self.mpr fun g hg => by
  rw [za (fun z => hp (zf.mpr ⟨g, hg, z⟩))]; rfl
theorem Bch.off {C : Addr} {H : Hp} {b S P : Addr} {ow : List Addr} {gs : List G} {past : List (List G)} (h : Bch C H b S P ow gs past) {a : Addr} (n : H a = none) : a ∉ ow := fun z => by
 obtain ⟨_, e⟩ := h.lv a z
 rw [n] at e; cases e
theorem Bch.nep {C : Addr} {H : Hp} {b S P : Addr} {ow : List Addr} {gs : List G} {past : List (List G)} (h : Bch C H b S P ow gs past) {a : Addr} {u : HO} (e : H a = some u) (hu : ∀ xs, u ≠ .lst xs) : a ≠ P := fun z => by
 obtain ⟨_, e', _⟩ := h.pa
 rw [z, e'] at e; exact hu _ (zN e).symm
theorem Bch.neb {C : Addr} {H : Hp} {b S P : Addr} {ow : List Addr} {gs : List G} {past : List (List G)} (h : Bch C H b S P ow gs past) {a : Addr} {u : HO} (e : H a = some u) (hu : ∀ C dx fs, u ≠ .ins C dx fs) : a ≠ b := fun z => by
 obtain ⟨_, e'⟩ := h.at_
 rw [z, e'] at e; exact hu _ _ _ (zN e).symm
theorem Bch.tup {C : Addr} {H H' : Hp} {b S P : Addr} {ow : List Addr} {gs : List G} {past : List (List G)} (h : Bch C H b S P ow gs past) (k : Kp b P H H') {a : Addr} {xs : List V} (e : H a = some (.tup xs)) : H' a = some (.tup xs) :=
 k a _ (h.neb e fun _ _ _ z => by cases z) (h.nep e fun _ z => by cases z) e
theorem Bch.dk {C : Addr} {H H' : Hp} {b S P : Addr} {ow : List Addr} {gs : List G} {past : List (List G)} (h : Bch C H b S P ow gs past) (k : Kp b P H H') {a : Addr} {xs : List (Key × V)} (e : H a = some (.dK xs)) : H' a = some (.dK xs) :=
 k a _ (h.neb e fun _ _ _ z => by cases z) (h.nep e fun _ z => by cases z) e
theorem Bch.lst {C : Addr} {H H' : Hp} {b S P : Addr} {ow : List Addr} {gs : List G} {past : List (List G)} (h : Bch C H b S P ow gs past) (k : Kp b P H H') {a : Addr} {xs : List V} (e : H a = some (.lst xs)) (ha : a ∉ ow) : H' a = some (.lst xs) :=
 k a _ (h.neb e fun _ _ _ z => by cases z) (fun z => ha (z ▸ h.po)) e
theorem Se {ow ow' : List Addr} {H : Hp} (o : ∀ a ∈ ow', a ∈ ow ∨ H a = none) {a : Addr} {u : HO} (e : H a = some u) (ha : a ∉ ow) : a ∉ ow' := fun z => by
 rcases o a z with z | z
 ·exact ha z
 ·rw [z] at e; cases e
theorem TK {p : Int} : ∀ l : List Int, inV (.int p) (l.map V.int) = decide (p ∈ l)
 | [] => rfl
 | a :: l => by
  show (eqV (.int a) (.int p) || inV (.int p) (l.map V.int)) = _
  rw [TK l]
  have e : eqV (.int a) (.int p) = decide (p = a) := by
   show decide (a = p) = decide (p = a)
   exact decide_eq_decide.mpr eq_comm
  rw [e, ← Bool.decide_or]
  exact decide_eq_decide.mpr zL.symm
theorem V6 (l : List Int) : (l.map V.int).all KA = true := by
 rw [List.all_eq_true]
 intro x hx
 obtain ⟨i, _, rfl⟩ := zf.mp hx
 rfl
theorem Uh {gs : List G} : (gs.filter fun _ => true) = gs := List.filter_eq_self.mpr fun _ _ => rfl
end TG
namespace L2
open PySem PySem.Spec PyProof.Rows
section
variable {prog : Program} {w : World} {A : Around} {E : Value → Shared → Prop} {s : Shared}
theorem Om {it t : Addr} {items : Array Value} (hne : t ≠ it) : ∀ (n i : Nat) (s : Shared) (Q : List Value → Shared → Prop), s.heap.IsListIter it t i → s.heap.IsList t items → i + n ≤ items.size →
  (∀ h', h'.IsListIter it t (i + n) → Heap.SameBut it s.heap h' → Q ((items.toList.drop i).take n) { s with heap := h' }) → wpAny (model prog w) A (draw (.ref it) n) Q E s
 | 0, i, s, Q, hit, _, _, hQ => by
  show wpAny _ _ (pure []) Q E s
  exact wpAny_pure (by simpa using hQ s.heap hit (Heap.SameBut.refl ..))
 | n + 1, i, s, Q, hit, ht, hle, hQ => by
  have hlt : i < items.size := by lia
  show wpAny _ _ (pyNext (.ref it) >>= _) Q E s
  refine wpAny_bind (wpAny_pyNext_list_item hit ht (x := items[i]) (by simp [hlt]) fun h₁ hit₁ hs₁ => ?_)
  refine wpAny_bind (wpAny_holding (Om hne n (i + 1) _ _ hit₁ (ht.at fun o e => (hs₁.2 t hne).trans e) (by lia) fun h₂ hit₂ hs₂ => wpAny_pure ?_))
  have hd : items.toList.drop i = items[i] :: items.toList.drop (i + 1) := by simp [List.drop_eq_getElem_cons, hlt]
  have := hQ h₂ (by rw [show i + (n + 1) = i + 1 + n by lia]; exact hit₂) (hs₁.trans hs₂)
  rw [hd, List.take_succ_cons] at this
  exact this
theorem Le {t : Addr} {items : Array Value} {Q : List Value → Shared → Prop} (hh : A.handled = none) (ht : s.heap.IsList t items)
  (hQ : ∀ h', Heap.ExtBut s.heap.objs.size s.heap h' → Q items.toList { s with heap := h' }) : wpAny (model prog w) A (unpackItems (.ref t) items.size none) Q E s := by
 have hlt : t ≠ s.heap.objs.size := by obtain ⟨o, ho, _⟩ := ht; exact zX (zH ho)
 unfold unpackItems
 refine wpAny_bind ?_
 ·unfold notIterableAtAll
  refine wpAny_bind (wpAny_specialOf ht.typeIs slot_list_iter.lookup ?_)
  refine wpAny_pure ?_
  simp only [zn, if_false]
  refine wpAny_bind (wpAny_holding (wpAny_pyIter_list ht ?_))
  refine wpAny_bind (wpAny_holding (Om hlt items.size 0 _ _ ⟨_, zY _ rfl, rfl, rfl⟩ (ht.at fun o e => zB _ e) (by lia) fun h₁ hit₁ hs₁ => ?_))
  have hall : List.take items.size (List.drop 0 items.toList) = items.toList := by
   rw [List.drop_zero]; exact List.take_of_length_le (by simp)
  rw [hall]
  rw [if_neg (by simp)]
  have ht₁ : h₁.IsList t items := ht.at fun o e => (hs₁.2 t hlt).trans (zB _ e)
  refine wpAny_bind (wpAny_holding (wpAny_pyNext_list_end hh hit₁ ht₁ (by simp) fun h₂ he₂ => ?_))
  simp only [Option.isSome_none, zn, if_false]
  refine wpAny_pure (hQ h₂ fun b o hb e => he₂ b o hb (hs₁.extBut b o hb (zB _ e)))
theorem Kq {env : Env} {elts : List Expr} {x1} {pos : Pos} {t : Addr} {items : Array Value} {Q : Unit → Shared → Prop} (hh : A.handled = none) (ht : s.heap.IsList t items)
  (hn : (assignEach elts env).length = items.size) (hstar : (assignEach elts env).findIdx? (·.1) = none)
  (h : ∀ h', Heap.ExtBut s.heap.objs.size s.heap h' → wpAny (model prog w) A (assignInOrder ((assignEach elts env).map (·.2)) items.toList) Q E { s with heap := h' }) :
  wpAny (model prog w) A (assign (.Tuple elts x1 pos) env (.ref t)) Q E s := by
 rw [assign_Tuple]
 refine wpAny_bind (wpAny_standAt ?_)
 unfold unpack
 rw [hn, hstar]
 exact wpAny_bind (wpAny_holding (Le hh ht h))
end
section
variable {X : Cx} {pos : Pos}
noncomputable def OU (K : W.Frag) (n : Nat) (t : TGs) : TG := fun v σ H Q => ∃ a xs, v = .ref a ∧ SqL K H a xs ∧ xs.length = n ∧ t xs σ H Q
theorem af {es : List Expr} {k : Nat} {t : TGs} {n : Nat} (hc : X.calm = true) (h : PGs X es t)
  (hn : (assignEach es X.env).length = n := by rfl) (hst : (assignEach es X.env).findIdx? (·.1) = none := by rfl) : PG X (.Tuple es k pos) (OU X.K n t) := by
 intro pins s σ H v u Q I r hw
 obtain ⟨a, xs, e1, hq, hl, hw⟩ := hw
 subst e1
 cases r
 obtain ⟨its, rv, ht, hz⟩ := I.list hq
 refine Kq (I.ok.hd hc) ht.isList (by simp [hn, ← hl, rv.length]) hst fun h' hx => ?_
 have I1 : Inv X pins σ H { s with heap := h' } := I.kept (t' := s.toks) fun b o e => hx b o (zX (zH e)) e
 exact h pins _ σ H xs _ Q I1 (by simpa using rv) hw
noncomputable def Su : V → List V → Hp → VK → Prop := fun x vs H Q => ∃ a kvs, x = .ref a ∧ vs = [] ∧ H a = some (.dK kvs) ∧ Q .non (upd H a (.dK []))
theorem Tn : MtR X "dict.clear" Su := by
 intro pins s σ H x vs v us Q I rx rv h
 obtain ⟨a, kvs, rfl, rfl, e, q⟩ := h
 cases rx
 cases rv
 obtain ⟨z, hd, ws, rel, dd⟩ := Pb I.hok e
 refine call_meetsIn PySem.F.slot_dict_clear dd.typeIs PySem.F.entry_dict_clear (PySem.F.args_dict_clear_1 _) (meets_dict_clear (A8 X.prog X.w) a) ⟨ws, dd, by rw [← Paired.length rel]; exact z, fun h' dd' hs => ?_⟩
 have he : ∃ q, h'.get? a = some q := let ⟨q, _, _, hq, _⟩ := dd'; ⟨q, hq⟩
 exact ⟨.non, _, Kb I (by rw [e]; exact True.intro) hs he (QC (zi _) hd .nil dd'), rfl, q⟩
noncomputable def XG : V → List V → Hp → VK → Prop := fun x vs H Q => ∃ a b more, x = .ref a ∧ vs = [.ref b] ∧ a ≠ b ∧ H a = some (.dK []) ∧ H b = some (.dK more) ∧ Q .non (upd H a (.dK more))
theorem W7 : MtR X "dict.update" XG := by
 intro pins s σ H x vs v us Q I rx rv h
 obtain ⟨a, b, more, rfl, rfl, hab, e, e2, q⟩ := h
 cases rx
 obtain ⟨u, rfl, ru⟩ := vals1 rv
 cases ru
 obtain ⟨z, hd, ws, rel, dd⟩ := Pb I.hok e
 obtain ⟨z2, hd2, ws2, rel2, dd2⟩ := Pb I.hok e2
 cases rel
 have hn : (ws2.map (·.1)).Nodup := let ⟨_, _, _, _, _, _, _, _, hn⟩ := dd2; hn
 refine call_meetsIn PySem.F.slot_dict_update dd.typeIs PySem.F.entry_dict_update (PySem.F.args_dict_update_2 _ _) (meets_dict_update (A8 X.prog X.w) a b hab hd2) ⟨[], ws2, dd, dd2, by rw [← Paired.length rel2, zP, Nat.zero_add]; exact z2, fun h' dd' _ hs => ?_⟩
 rw [merged_nil_of_nodup ws2 hn] at dd'
 have he : ∃ q, h'.get? a = some q := let ⟨q, _, _, hq, _⟩ := dd'; ⟨q, hq⟩
 exact ⟨.non, _, Kb I (by rw [e]; exact True.intro) hs he (QC z2 hd rel2 dd'), rfl, q⟩
noncomputable def Er : List V → Hp → VK → Prop := fun vs H Q => ∃ b more, vs = [.ref b] ∧ H b = some (.dK more) ∧ ∀ p H', H p = none → AI H H' → H' p = some (.dK more) → Q (.ref p) H'
theorem SZ : Bl X (.type "dict") Er := by
 intro pins s σ H xs us Q I r h
 obtain ⟨b, more, rfl, e2, q⟩ := h
 obtain ⟨u, rfl, rx⟩ := vals1 r
 cases rx
 obtain ⟨z2, hd2, ws2, rel2, dd2⟩ := Pb I.hok e2
 refine kt_call_dict hd2 dd2 (by rw [← Paired.length rel2]; exact z2) fun h' dd' hs => ?_
 have nf : H s.heap.objs.size = none := I.hok.fresh (zG _)
 have hsys : (s.heap.objs.size == sysModules) = false := beq_false_of_ne (zt I.big)
 refine ⟨.ref s.heap.objs.size, upd H s.heap.objs.size (.dK more), I.laid (t' := s.toks) (fun c o e => (hs.2 c (zX (zH e))).trans (zB _ e)) (zG _) ?_, rfl, q _ _ nf (Aw nf) AN⟩
 exact ⟨z2, hsys, ws2, rel2, dd'⟩
end
theorem Ll {X : Cx} : E7 (CXE X.prog X.w) X E0 := fun _ _ _ _ _ _ _ ⟨_, _, _, _, _, _, _, _, _, h⟩ => h.elim
theorem Wf : bootBuiltins "dict" = some (.type "dict") := by decide +kernel
structure aj (K : W.Frag) (x qual : Str) (st : Stmt) (f : Addr) (fd : FuncData) : Prop where
 ex : ∃ (dV oc : Value) (od : Option Addr) (kV doc pm : Value) (an : Option Addr) (cdv ct : Value) (osl : Array (Option Value)),
  fd = W.fnOf x qual (Bt st) (BH st) (AG st) dV kV doc pm an cdv ct ∧ K.lookup f = some ⟨oc, od, .func fd, osl⟩ ∧ W.codeIn K cdv qual = true
 kp : W.keepIn K (.ref f) = true
theorem aj.okX {P : Program} {w : World} {K : W.Frag} {mg : Str → Option Value} {base : Heap} {x qual : Str} {st : Stmt} {f : Addr} {fd : FuncData} {N ps : List Str} {k : Nat} {sp : Sp} (F : aj K x qual st f fd) (S : AR N ps (AG st)) (len : ∀ vs H Q E, sp vs H Q E → vs.length = ps.length)
  (hbody : ∀ (cdv : Value) (A : Around) (outer : List Env) (s : Shared) (H : Hp) (vs : List V) (Q : VK) (E : XK), CF k (A.deeper (envOfC qual (AG st) s.heap.objs.size f cdv)) → sp vs H Q E →
   ∃ t, PSs (FM (CXE P w) P w K mg base N qual (AG st) f cdv A outer s H E) (BH st) t ∧ t { nx := fun _ H' => Q .non H', rt := Q } (start N vs) H) : Af P w K mg base (CXE P w) (k + 1) f fd ps sp := by
 obtain ⟨dV, oc, od, kV, doc, pm, an, cdv, ct, osl, rfl, lk, hcd⟩ := F.ex
 exact Sq lk hcd S len fun A outer s H vs Q E hr hsp => hbody cdv A outer s H vs Q E hr hsp
structure DMD (K : W.Frag) (C : Addr) (x qual : Str) (st : Stmt) (ps : List Str) (f : Addr) (fd : FuncData) (dvs : List V) : Prop where
 F : aj K x qual st f fd
 mt : Rz K C x f
 b : Binds K fd ps []
 bd : ∃ ds, Al dvs ds ∧ Binds K fd ps ds
end L2
namespace TG
open PySem L2
structure A0 (H : Hp) (D : Addr) (gs : List G) : Prop where
 at_ : ∃ (kvs : List (Key × V)) (ks : List Int), H D = some (.dK kvs) ∧ kvs.map (·.1) = ks.map Sum.inl ∧ ks.Perm (AT gs) ∧ ∀ g ∈ gs, ∃ a, B7 kvs (.inl g.p) = some (.ref a) ∧ H a = some (.tup [.int g.f, .int g.h])
theorem A0.keep {H H' : Hp} {D : Addr} {gs : List G} (h : A0 H D gs) (kd : ∀ kvs, H D = some (.dK kvs) → H' D = some (.dK kvs)) (kt : ∀ a xs, H a = some (.tup xs) → H' a = some (.tup xs)) : A0 H' D gs := by
 obtain ⟨kvs, ks, e, e2, p, q⟩ := h.at_
 exact ⟨kvs, ks, kd _ e, e2, p, fun g hg => (q g hg).imp fun a z => ⟨z.1, kt _ _ z.2⟩⟩
theorem A0.same {H H' : Hp} {D : Addr} {gs : List G} (h : A0 H D gs) (s : AI H H') : A0 H' D gs := h.keep (fun _ e => s _ _ e) fun _ _ e => s _ _ e
theorem A0.kp {C b S P : Addr} {ow : List Addr} {gs0 : List G} {past : List (List G)} {H H' : Hp} {D : Addr} {gs : List G} (h : A0 H D gs) (hb : Bch C H b S P ow gs0 past) (k : Kp b P H H') : A0 H' D gs :=
 h.keep (fun _ e => hb.dk k e) fun _ _ e => hb.tup k e
theorem A0.none {H : Hp} {D : Addr} {kvs : List (Key × V)} {ks : List Int} {gs : List G} (e2 : kvs.map (·.1) = ks.map Sum.inl) (p : ks.Perm (AT gs)) {x : Int} (hx : x ∉ AT gs) : B7 kvs (.inl x : Key) = Option.none := by
 cases h : B7 kvs (.inl x : Key) with
 | none => rfl
 | some v =>
  have := Ww h
  rw [e2] at this
  obtain ⟨y, hy, z⟩ := zf.mp this
  cases z
  exact absurd (p.mem_iff.mp hy) hx
theorem A0.get {H : Hp} {D : Addr} {gs : List G} (h : A0 H D gs) (x : Int) : ∃ o, Gk H D (.int x) o ∧ (Ap gs x = Option.none → o = Option.none) ∧ ∀ g, Ap gs x = some g → ∃ a, o = some (.ref a) ∧ H a = some (.tup [.int g.f, .int g.h]) := by
 obtain ⟨kvs, ks, e, e2, p, q⟩ := h.at_
 refine ⟨_, Gk.k (k := .inl x) e, fun n => A0.none (H := H) (D := D) e2 p (CM.mp n), fun g hg => ?_⟩
 obtain ⟨h1, h2⟩ := Bc hg
 obtain ⟨a, z1, z2⟩ := q g h1
 rw [h2] at z1
 exact ⟨a, z1, z2⟩
theorem A0.isD {H : Hp} {D : Addr} {gs : List G} (h : A0 H D gs) : IsD H D := by
 obtain ⟨kvs, ks, e, _⟩ := h.at_
 exact .inl ⟨kvs, .inl e⟩
theorem A0.len {H : Hp} {D : Addr} {gs : List G} (h : A0 H D gs) : ∃ kvs, H D = some (.dK kvs) ∧ kvs.length = gs.length := by
 obtain ⟨kvs, ks, e, e2, p, _⟩ := h.at_
 refine ⟨kvs, e, ?_⟩
 have h1 := congrArg List.length e2
 have h2 := p.length_eq
 simp at h1 h2
 lia
theorem Em {gs : List G} {x : Int} {o : List G} : (AT (DG gs x o)).Perm ((AT gs).filter (fun y => decide (y ≠ x)) ++ AT o) := by
 have h := (FS (gs := gs) (p := x) (o := o)).map G.p
 rw [zW] at h
 refine h.trans (List.Perm.append_right _ (List.Perm.of_eq ?_))
 unfold AT
 clear h
 induction gs with
 | nil => rfl
 | cons g gs ih =>
  by_cases e : g.p = x
  ·rw [List.filter_cons_of_neg (by simp [e]), zZ, List.filter_cons_of_neg (by simp [e]), ih]
  ·rw [List.filter_cons_of_pos (by simp [e]), zZ, zZ, List.filter_cons_of_pos (by simp [e]), ih]
theorem On {kvs : List (Key × V)} {k : Key} {v : V} : (Cp kvs k v).map (·.1) = if (B7 kvs k).isSome = true then kvs.map (·.1) else kvs.map (·.1) ++ [k] := by
 unfold Cp
 rw [Fh]
 split
 ·rw [qN]
  refine List.map_congr_left fun p _ => ?_
  show (if p.1 = k then (p.1, v) else p).1 = p.1
  split <;> rfl
 ·rw [zW]; rfl
theorem A0.put {H H' : Hp} {D a : Addr} {gs : List G} {x f h : Int} (s : Std gs) (d : A0 H D gs) (ea : H a = some (.tup [.int f, .int h])) (hp : Q0 H D (.int x) (.ref a) H') : A0 H' D (DG gs x [⟨x, f, h⟩]) := by
 obtain ⟨kvs, ks, e, e2, p, q⟩ := d.at_
 rcases hp with ⟨kvs', k, e', ek, _, rfl⟩ | ⟨_, _, _, e', _⟩
 ·rw [e] at e'
  cases e'
  have hk : k = .inl x := by
   cases k with
   | inl i => cases ek; rfl
   | inr y => cases ek
  subst hk
  have kt : ∀ c xs, H c = some (.tup xs) → upd H D (.dK (Cp kvs (.inl x) (.ref a))) c = some (.tup xs) := fun c xs z => (AL (BQ z e (fun z => by cases z))).trans z
  have hmem : ∀ g, g ∈ DG gs x [⟨x, f, h⟩] → ∃ c, B7 (Cp kvs (.inl x) (.ref a)) (.inl g.p) = some (.ref c) ∧ upd H D (.dK (Cp kvs (.inl x) (.ref a))) c = some (.tup [.int g.f, .int g.h]) := fun g hg => by
   rcases HN.mp hg with ⟨h1, h2⟩ | h1
   ·obtain ⟨c, z1, z2⟩ := q g h1
    refine ⟨c, ?_, kt _ _ z2⟩
    rw [N3, if_neg (fun z => h2 (Sum.inl.inj z))]
    exact z1
   ·rw [zK.mp h1]
    exact ⟨a, by rw [N3, if_pos rfl], kt _ _ ea⟩
  have nd : (AT gs).Nodup := s.nd
  by_cases hx : x ∈ AT gs
  ·obtain ⟨g, hg, eg⟩ := zf.mp hx
   obtain ⟨c, z1, _⟩ := q g hg
   rw [eg] at z1
   refine ⟨_, ks, AN, by rw [On, z1]; exact e2, ?_, hmem⟩
   refine p.trans (List.Perm.trans ?_ Em.symm)
   have := (List.perm_cons_erase hx).trans (List.perm_append_singleton x _).symm
   rw [nd.erase_eq_filter] at this
   refine this.trans (List.Perm.of_eq ?_)
   show _ = _ ++ [x]
   congr 1
   exact List.filter_congr fun y _ => by
    by_cases h : y = x
    ·simp [h]
    ·simp [h, bne]
  ·refine ⟨_, ks ++ [x], AN, by rw [On, A0.none (H := H) (D := D) e2 p hx, if_neg (by simp), e2, zW]; rfl, ?_, hmem⟩
   refine List.Perm.trans (p.append_right [x]) (List.Perm.trans (List.Perm.of_eq ?_) Em.symm)
   show _ = _ ++ [x]
   congr 1
   refine (List.filter_eq_self.mpr fun y hy => ?_).symm
   have hy' : y ≠ x := fun z => hx (by rw [← z]; exact hy)
   simp [hy']
 ·rw [e] at e'
  cases e'
theorem A0.pop {H : Hp} {D : Addr} {gs : List G} {g : G} (d : A0 H D gs) (hg : g ∈ gs) : ∃ kvs a, H D = some (.dK kvs) ∧ B7 kvs (.inl g.p) = some (.ref a) ∧ A0 (upd H D (.dK (DZ kvs (.inl g.p)))) D (DG gs g.p []) := by
 obtain ⟨kvs, ks, e, e2, p, q⟩ := d.at_
 obtain ⟨a, z1, z2⟩ := q g hg
 have kt : ∀ c xs, H c = some (.tup xs) → upd H D (.dK (DZ kvs (.inl g.p))) c = some (.tup xs) := fun c xs z => (AL (BQ z e (fun z => by cases z))).trans z
 refine ⟨kvs, a, e, z1, ⟨_, ks.filter (fun y => decide (y ≠ g.p)), AN, ?_, ?_, fun x hx => ?_⟩⟩
 ·have : ∀ (kvs : List (Key × V)) (ks : List Int), kvs.map (·.1) = ks.map Sum.inl → (DZ kvs (.inl g.p)).map (·.1) = (ks.filter fun y => decide (y ≠ g.p)).map Sum.inl := fun kvs => by
   induction kvs with
   | nil => intro ks h; cases ks with
    | nil => rfl
    | cons _ _ => cases h
   | cons kv kvs ih => intro ks h; cases ks with
    | nil => cases h
    | cons k ks =>
     simp only [zZ, zy] at h
     have ih := ih ks h.2
     unfold DZ at *
     by_cases ek : k = g.p
     ·rw [List.filter_cons_of_neg (by rw [h.1, ek]; simp), List.filter_cons_of_neg (by simp [ek])]
      exact ih
     ·rw [List.filter_cons_of_pos (by rw [h.1]; simp [ek]), List.filter_cons_of_pos (by simp [ek]), zZ, zZ, ih, h.1]
  exact this kvs ks e2
 ·have := (p.filter (fun y => decide (y ≠ g.p))).trans (List.Perm.of_eq (qK _).symm)
  exact this.trans (Em (gs := gs) (x := g.p) (o := [])).symm
 ·rcases HN.mp hx with ⟨h1, h2⟩ | h1
  ·obtain ⟨c, y1, y2⟩ := q x h1
   refine ⟨c, ?_, kt _ _ y2⟩
   rw [← y1]
   have : ∀ kvs : List (Key × V), B7 (DZ kvs (.inl g.p)) (.inl x.p) = B7 kvs (.inl x.p) := fun kvs => by
    induction kvs with
    | nil => rfl
    | cons kv kvs ih =>
     by_cases ek : kv.1 = .inl g.p
     ·rw [UI ek, ih, BL (fun z => h2 (Sum.inl.inj (z.symm.trans ek)))]
     ·rw [T3 ek]
      by_cases ex : kv.1 = .inl x.p
      ·rw [Ba ex, Ba ex]
      ·rw [BL ex, BL ex, ih]
   exact this kvs
  ·cases h1
theorem A0.nil {H : Hp} {D : Addr} (e : H D = some (.dK [])) : A0 H D [] := ⟨[], [], e, rfl, zx _, fun _ h => absurd h (by simp)⟩
theorem Jp : ∀ {xs ys : List Int}, xs.Pairwise (· ≤ ·) → ys.Pairwise (· < ·) → xs.Perm ys → xs = ys
 | [], ys, _, _, h => (List.nil_perm.mp h).symm
 | x :: xs, [], _, _, h => absurd h (by intro z; have := z.length_eq; simp at this)
 | x :: xs, y :: ys, h1, h2, h => by
  obtain ⟨a1, a2⟩ := List.pairwise_cons.mp h1
  obtain ⟨b1, b2⟩ := List.pairwise_cons.mp h2
  have e : x = y := by
   have hx : x ∈ y :: ys := h.mem_iff.mp zR
   have hy : y ∈ x :: xs := h.mem_iff.mpr zR
   rcases zL.mp hx with e | hx
   ·exact e
   ·rcases zL.mp hy with e | hy
    ·exact e.symm
    ·have := a1 y hy
     have := b1 x hx
     lia
  subst e
  rw [Jp a2 b2 ((List.perm_cons x).mp h)]
theorem Ik {gs : List G} (h : Asc gs) : (AT gs).Pairwise (· < ·) := qC.mpr h
theorem Sa {K : W.Frag} {a : Addr} {gs : List G} {te : TE} {caps : St} {D : Addr} {H1 : Hp} {Q : Hp → Prop} (hl : SqL K H1 a ((AT gs).map V.int)) (hD : H1 D = none) (hz : gs.length ≤ 1000)
  (he : ∀ g H (R : VK), g ∈ gs → AI H1 H → (∀ p H', H p = none → AI H H' → H' p = some (.tup (G.vs g)) → R (.ref p) H') → te (some (.int g.p) :: caps) H R)
  (hd : ∀ H as, AI H1 H → H D = some (.lst (as.map V.ref)) → Ak H as gs → Q H) : FH te En caps (Itl K a) D H1 Q := by
 have hlen : ((AT gs).map V.int).length = gs.length := by rw [z5, z5]
 refine Ca (xs := (AT gs).map V.int) (fun i ys H => ∃ as : List Addr, ys = as.map V.ref ∧ AI H1 H ∧ H D = some (.lst ys) ∧ Ak H as (gs.take i)) ⟨[], rfl, Aw hD, AN, .nil⟩ (fun _ _ H _ ⟨_, _, s1, _⟩ => s1.seq hl) ?_ ?_
 ·rintro i x ys H hx ⟨as, rfl, s1, e1, g1⟩
  have hi : i < gs.length := by
   have := (zA.mp hx).1
   lia
  have ex : x = V.int gs[i].p := by
   rw [zJ, zJ, z4 hi] at hx
   exact (zN hx).symm
  subst ex
  have et : gs.take (i + 1) = gs.take i ++ [gs[i]] := zM hi
  have lg := g1.len
  rw [zh] at lg
  unfold En
  dsimp only
  rw [if_pos rfl]
  refine he gs[i] H _ (zV hi) s1 fun p H2 n2 s2 e2 => ?_
  have nD2 : p ≠ D := fun z => by rw [z, e1] at n2; cases n2
  refine ⟨s2.get e1, by rw [z5, PySem.sizeLine_eq]; lia, _, by lia, rfl, by lia, as ++ [p], by rw [zW]; rfl, (s1.trans s2).updFresh hD, AN, ?_⟩
  rw [et]
  exact (Ak.snoc (g1.same s2) e2).fresh (fun ys z => by rw [s2.get e1] at z; cases z)
 ·rintro ys H ⟨as, rfl, s1, e1, g1⟩
  rw [hlen, zl] at g1
  exact hd H as s1 e1 g1
structure Kept (ow : List Addr) (H H' : Hp) (ow' : List Addr) : Prop where
 tup : ∀ c xs, H c = some (.tup xs) → H' c = some (.tup xs)
 lst : ∀ c xs, c ∉ ow → H c = some (.lst xs) → H' c = some (.lst xs)
 frz : ∀ c o u, H c = some (.frz o u) → H' c = some (.frz o u)
 off : ∀ c ∈ ow', c ∈ ow ∨ H c = none
 live : ∀ c u, H c = some u → ∃ u', H' c = some u'
 tbl : ∀ c ps, H c = some (.tbl ps) → H' c = some (.tbl ps)
theorem Kept.of {ow : List Addr} {H H' : Hp} (s : AI H H') : Kept ow H H' ow := ⟨fun _ _ e => s _ _ e, fun _ _ _ e => s _ _ e, fun _ _ _ e => s _ _ e, fun _ h => .inl h, fun _ u e => ⟨u, s _ _ e⟩, fun _ _ e => s _ _ e⟩
theorem Kept.refl {ow : List Addr} {H : Hp} : Kept ow H H ow := Kept.of (AI.refl _)
theorem Kept.trans {ow ow1 ow2 : List Addr} {H H1 H2 : Hp} (a : Kept ow H H1 ow1) (b : Kept ow1 H1 H2 ow2) : Kept ow H H2 ow2 where
 tup := fun c xs e => b.tup c xs (a.tup c xs e)
 lst := fun c xs n e => b.lst c xs (fun z => by
  rcases a.off c z with z | z
  ·exact n z
  ·rw [z] at e; cases e) (a.lst c xs n e)
 frz := fun c o u e => b.frz c o u (a.frz c o u e)
 off := fun c h => by
  rcases b.off c h with z | z
  ·exact a.off c z
  ·refine .inr ?_
   cases q : H c with
   | none => rfl
   | some u => obtain ⟨u', e⟩ := a.live c u q; rw [z] at e; cases e
 live := fun c u e => let ⟨u', e'⟩ := a.live c u e; b.live c u' e'
 tbl := fun c ps e => b.tbl c ps (a.tbl c ps e)
theorem Kept.same {ow ow1 : List Addr} {H H1 H2 : Hp} (a : Kept ow H H1 ow1) (s : AI H1 H2) : Kept ow H H2 ow1 := a.trans (Kept.of s)
theorem Kept.kp {C b S P S' P' : Addr} {ow ow' : List Addr} {gs gs' : List G} {past past' : List (List G)} {H H' : Hp} (hb : Bch C H b S P ow gs past) (k : Kp b P H H') (hb' : Bch C H' b S' P' ow' gs' past') (o : ∀ a ∈ ow', a ∈ ow ∨ H a = none) (hl : ∃ u, H' P = some u) : Kept ow H H' ow' where
 tup := fun c xs e => hb.tup k e
 lst := fun c xs n e => hb.lst k e n
 frz := fun c o u e => k c _ (hb.neb e fun _ _ _ z => by cases z) (hb.nep e fun _ z => by cases z) e
 off := o
 live := fun c u e => by
  by_cases h1 : c = b
  ·obtain ⟨dx, z⟩ := hb'.at_; rw [h1]; exact ⟨_, z⟩
  ·by_cases h2 : c = P
   ·rw [h2]; exact hl
   ·exact ⟨u, k c u h1 h2 e⟩
 tbl := fun c ps e => k c _ (hb.neb e fun _ _ _ z => by cases z) (hb.nep e fun _ z => by cases z) e
noncomputable def Scr (K : W.Frag) (ow : List Addr) (H : Hp) (a : Addr) (xs : List V) : Prop := (H a = some (.lst xs) ∧ a ∉ ow) ∨ (∃ o, H a = some (.frz o (.lst xs))) ∨ ∀ H', SqL K H' a xs
theorem Scr.sq {K : W.Frag} {ow : List Addr} {H : Hp} {a : Addr} {xs : List V} (h : Scr K ow H a xs) : SqL K H a xs := by
 rcases h with ⟨h, _⟩ | ⟨o, h⟩ | h
 ·exact .inl (.inl h)
 ·exact .inl (.inr ⟨o, h⟩)
 ·exact h H
theorem Scr.kept {K : W.Frag} {ow ow' : List Addr} {H H' : Hp} {a : Addr} {xs : List V} (h : Scr K ow H a xs) (k : Kept ow H H' ow') : Scr K ow' H' a xs := by
 rcases h with ⟨h, n⟩ | ⟨o, h⟩ | h
 ·exact .inl ⟨k.lst _ _ n h, Se k.off h n⟩
 ·exact .inr (.inl ⟨o, k.frz _ _ _ h⟩)
 ·exact .inr (.inr h)
theorem Scr.of {K : W.Frag} {ow : List Addr} {H H' : Hp} {a : Addr} {xs : List V} (h : SqL K H a xs) (ho : ∀ c ∈ ow, H c = none) (s : AI H H') : Scr K ow H' a xs := by
 rcases h with (h | ⟨o, h⟩) | h
 ·exact .inl ⟨s.get h, fun z => by rw [ho a z] at h; cases h⟩
 ·exact .inr (.inl ⟨o, s.get h⟩)
 ·exact .inr (.inr fun _ => .inr h)
theorem Vq {G0 gs : List G} {k : Nat} (hp : G0.Perm (gs.take k)) (hk : k < gs.length) (nd : (gs.map G.p).Nodup) (h40 : gs.length ≤ 40) (ok : ∀ g ∈ gs, OkG g) {past : List (List G)} (hl : past.length < 300) :
  Jd G0 past gs[k].p gs[k].f gs[k].h = none ∧ (DG G0 gs[k].p [⟨gs[k].p, gs[k].f, gs[k].h⟩]).Perm (gs.take (k + 1)) := by
 have hn : gs[k].p ∉ AT G0 := fun z => by
  obtain ⟨g, hg, e⟩ := zf.mp z
  have hg2 := hp.mem_iff.mp hg
  obtain ⟨j, hj, ej⟩ := List.getElem_of_mem hg2
  rw [zh] at hj
  rw [List.getElem_take] at ej
  have hjk : j < k := by lia
  have h1 : (gs.map G.p)[j]'(by rw [z5]; lia) = (gs.map G.p)[k]'(by rw [z5]; lia) := by
   rw [List.getElem_map, List.getElem_map, ej, e]
  exact List.pairwise_iff_getElem.mp nd j k (by rw [z5]; lia) (by rw [z5]; lia) hjk h1
 have hl2 := hp.length_eq
 rw [zh] at hl2
 constructor
 ·unfold Jd
  rw [if_neg hn, (GF (p := gs[k].p) (f := gs[k].f) (h := gs[k].h)).mpr (ok gs[k] (zV hk)), if_neg (by lia), if_neg (by lia)]
  rfl
 ·refine FS.trans ?_
  rw [RU hn, zM hk]
  exact hp.append_right _
theorem A0.dput {H : Hp} {D a : Addr} {gs : List G} {x f h : Int} (s : Std gs) (d : A0 H D gs) (ea : H a = some (.tup [.int f, .int h])) :
  ∃ kvs kvs', H D = some (.dK kvs) ∧ Q0 H D (.int x) (.ref a) (upd H D (.dK kvs')) ∧ A0 (upd H D (.dK kvs')) D (DG gs x [⟨x, f, h⟩]) := by
 obtain ⟨kvs, e, hl⟩ := d.len
 have hp : Q0 H D (.int x) (.ref a) (upd H D (.dK (Cp kvs (.inl x) (.ref a)))) := .inl ⟨kvs, .inl x, e, rfl, by rw [PySem.sizeLine_eq]; have := s.len; lia, rfl⟩
 exact ⟨kvs, _, e, hp, A0.put s d ea hp⟩
end TG
namespace L2
open PySem PySem.Spec PyProof.Rows
theorem vals3 {x y z : V} {us : List Value} (r : Al [x, y, z] us) : ∃ u v w', us = [u, v, w'] ∧ RelV x u ∧ RelV y v ∧ RelV z w' := by
 cases r with
 | cons r1 r2 =>
  cases r2 with
  | cons r3 r4 =>
   cases r4 with
   | cons r5 r6 => cases r6; exact ⟨_, _, _, rfl, r1, r3, r5⟩
section
variable {X : Cx}
noncomputable def IP : List V → Hp → VK → Prop := fun xs H Q => ∃ i j k, xs = [.int i, .int j, .int k] ∧ ∀ m, (∀ b, m ≤ b ↔ i ≤ b ∧ j ≤ b ∧ k ≤ b) → Q (.int m) H
theorem Ta (hc : X.calm = true) : Bl X (.builtin "max") IP := by
 intro pins s σ H xs us Q I r h
 obtain ⟨i, j, k, rfl, q⟩ := h
 obtain ⟨u, v, w', rfl, ⟨t, rfl⟩, ⟨t', rfl⟩, ⟨t'', rfl⟩⟩ := vals3 r
 refine max_three_ints (I.ok.hd hc) fun h' tk kp => ?_
 by_cases h1 : j > i
 ·rw [if_pos h1]
  by_cases h2 : k > j
  ·rw [if_pos h2]; exact ⟨.int k, H, I.kept kp, ⟨_, rfl⟩, q k fun b => by lia⟩
  ·rw [if_neg h2]; exact ⟨.int j, H, I.kept kp, ⟨_, rfl⟩, q j fun b => by lia⟩
 ·rw [if_neg h1]
  by_cases h2 : k > i
  ·rw [if_pos h2]; exact ⟨.int k, H, I.kept kp, ⟨_, rfl⟩, q k fun b => by lia⟩
  ·rw [if_neg h2]; exact ⟨.int i, H, I.kept kp, ⟨_, rfl⟩, q i fun b => by lia⟩
end
end L2
namespace TG
open PySem L2
noncomputable def V7 : Err → Str
 | .nogate => "no gate" | .taken => "taken" | .upside => "upside down" | .bounds => "out of bounds" | .full => "beach full" | .deeds => "deeds full" | .nothing => "nothing back"
 | .badlist => "bad list" | .few => "too few" | .size => "wrong size" | .badthrow => "bad throw" | .badrow => "bad row"
noncomputable def Uy : Option Err → Str
 | none => ""
 | some e => V7 e
inductive Wrd (w : Str) : Prop where
 | put (h : w = "put") | take (h : w = "take") | lift (h : w = "lift") | sink (h : w = "sink") | back (h : w = "back")
noncomputable def BX (w : Str) (gs : List G) (past : List (List G)) (p x y : Int) : Option Err :=
 if w = "back" then JO past p else if w = "put" then Jd gs past p x y else if w = "take" then Gg gs past p else if w = "lift" then Db gs past p x y else Db gs past p (-x) (-y)
noncomputable def BI (w : Str) (gs : List G) (p x y : Int) : Int × Int :=
 if w = "put" then (x, y) else
  if w = "lift" then (((Ap gs p).elim 0 G.f) + x, ((Ap gs p).elim 0 G.h) + y) else
  if w = "sink" then (((Ap gs p).elim 0 G.f) - x, ((Ap gs p).elim 0 G.h) - y) else ((Ap gs p).elim 0 G.f, (Ap gs p).elim 0 G.h)
noncomputable def Dc (w : Str) (gs : List G) (past : List (List G)) (p x y : Int) : List G :=
 if w = "back" then past.getD (past.length - p.toNat) [] else if w = "take" then DG gs p [] else DG gs p [⟨p, (BI w gs p x y).1, (BI w gs p x y).2⟩]
noncomputable def JA (w : Str) (gs : List G) (past : List (List G)) (p : Int) : List (List G) := if w = "back" then past.take (past.length - p.toNat) else past ++ [gs]
noncomputable def aft (w : Str) (gs : List G) (past : List (List G)) (p x y : Int) : List G × List (List G) := match BX w gs past p x y with
 | some _ => (gs, past)
 | none => (Dc w gs past p x y, JA w gs past p)
noncomputable def JX : Err → Bool
 | .nogate => true | .taken => true | .upside => true | .bounds => true | .full => true | .deeds => true | .nothing => true | _ => false
theorem Qj {p f h : Int} {e : Err} (he : DY p f h = some e) : JX e = true := by
 unfold DY at he
 split at he
 ·cases he; rfl
 ·split at he
  ·cases he
  ·cases he; rfl
theorem Ou {past : List (List G)} {e : Err} (he : DU past = some e) : JX e = true := by
 unfold DU at he
 split at he
 ·cases he; rfl
 ·cases he
theorem V9 {gs : List G} {past : List (List G)} {p f h : Int} {e : Err} (he : Jd gs past p f h = some e) : JX e = true := by
 unfold Jd at he
 split at he
 ·cases he; rfl
 ·cases hg : DY p f h with
  | some e' => rw [hg] at he; cases he; exact Qj hg
  | none =>
   rw [hg] at he
   have he : (if 40 ≤ gs.length then some Err.full else if 300 ≤ past.length then some Err.deeds else none) = some e := he
   split at he
   ·cases he; rfl
   ·split at he
    ·cases he; rfl
    ·cases he
theorem VF {gs : List G} {past : List (List G)} {p : Int} {e : Err} (he : Gg gs past p = some e) : JX e = true := by
 unfold Gg at he
 split at he
 ·exact Ou he
 ·cases he; rfl
theorem RN {gs : List G} {past : List (List G)} {p x y : Int} {e : Err} (he : Db gs past p x y = some e) : JX e = true := by
 unfold Db at he
 split at he
 ·cases he; rfl
 ·rename_i g _
  cases hg : DY p (g.f + x) (g.h + y) with
  | some e' => rw [hg] at he; cases he; exact Qj hg
  | none => rw [hg] at he; exact Ou he
theorem VP {past : List (List G)} {n : Int} {e : Err} (he : JO past n = some e) : JX e = true := by
 unfold JO at he
 split at he
 ·cases he; rfl
 ·split at he
  ·cases he; rfl
  ·cases he
theorem WF {e : Err} : V7 e ≠ "" := by cases e <;> decide
structure Wd (C : Addr) (H : Hp) (b S P : Addr) (ow : List Addr) (gs : List G) (past : List (List G)) (D L : Addr) : Prop where
 bch : Bch C H b S P ow gs past
 dk : A0 H D gs
 pl : ∃ ds : List Addr, H L = some (.lst (ds.map V.ref)) ∧ Paired (A0 H) ds past ∧ D ∉ ds
 po : L ∉ ow
theorem Wd.same {C : Addr} {H H' : Hp} {b S P : Addr} {ow : List Addr} {gs : List G} {past : List (List G)} {D L : Addr} (h : Wd C H b S P ow gs past D L) (s : AI H H') : Wd C H' b S P ow gs past D L := by
 obtain ⟨ds, e, pr, n⟩ := h.pl
 exact ⟨h.bch.same s, h.dk.same s, ⟨ds, s.get e, Paired.mapP pr fun _ _ q => q.same s, n⟩, h.po⟩
theorem Wd.deed {C : Addr} {H H' : Hp} {b S P S' P' : Addr} {ow ow' : List Addr} {gs gs' : List G} {past past' : List (List G)} {D L : Addr} (h : Wd C H b S P ow gs past D L) (k : Kp b P H H') (hb' : Bch C H' b S' P' ow' gs' past') (o : ∀ a ∈ ow', a ∈ ow ∨ H a = none) :
  A0 H' D gs ∧ (∃ ds : List Addr, H' L = some (.lst (ds.map V.ref)) ∧ Paired (A0 H') ds past ∧ D ∉ ds) ∧ L ∉ ow' := by
 obtain ⟨ds, e, pr, n⟩ := h.pl
 exact ⟨h.dk.kp h.bch k, ⟨ds, h.bch.lst k e h.po, Paired.mapP pr fun _ _ q => q.kp h.bch k, n⟩, Se o e h.po⟩
theorem Wd.plen {C : Addr} {H : Hp} {b S P : Addr} {ow : List Addr} {gs : List G} {past : List (List G)} {D L : Addr} (h : Wd C H b S P ow gs past D L) : ∃ xs, H L = some (.lst xs) ∧ xs.length = past.length := by
 obtain ⟨ds, e, pr, n⟩ := h.pl
 exact ⟨_, e, by rw [z5, Paired.length pr]⟩
theorem Kept.cons {ow ow' : List Addr} {H H' : Hp} (k : Kept ow H H' ow') {L : Addr} : Kept (L :: ow) H H' (L :: ow') :=
 ⟨k.tup, fun c xs n e => k.lst c xs (fun z => n (zD _ z)) e, k.frz, fun c hc => by
  rcases zL.mp hc with z | z
  ·exact .inl (by rw [z]; exact zR)
  ·exact (k.off c z).imp (zD _) id, k.live, k.tbl⟩
theorem SC {w : Str} {gs : List G} {past : List (List G)} {p x y : Int} (wd : Wrd w) (nb : w ≠ "back") (h1 : w = "put" → p ∉ AT gs) (h2 : w ≠ "put" → p ∈ AT gs) (sd : Std gs) :
  BX w gs past p x y = (DY p (BI w gs p x y).1 (BI w gs p x y).2).or (if w = "put" ∧ 40 ≤ gs.length then some .full else DU past) := by
 unfold BX
 rw [if_neg nb]
 rcases wd with e | e | e | e | e
 ·subst e
  rw [if_pos rfl]
  unfold Jd BI DU
  rw [if_neg (h1 rfl), if_pos rfl]
  by_cases h4 : 40 ≤ gs.length
  ·rw [if_pos h4, if_pos ⟨rfl, h4⟩]
  ·rw [if_neg h4, if_neg (show ¬ (("put" : Str) = "put" ∧ 40 ≤ gs.length) from fun z => h4 z.2)]
 all_goals first | exact absurd e nb | skip
 all_goals
  have np : w ≠ "put" := by rw [e]; decide
  have hp := h2 np
  obtain ⟨g, hg, hgp⟩ := zf.mp hp
  have gof : Ap gs p = some g := hgp ▸ Hw sd.asc hg
  rw [if_neg np, if_neg (show ¬ (w = "put" ∧ 40 ≤ gs.length) from fun z => np z.1)]
  unfold BI
  rw [if_neg np, gof]
 ·rw [if_pos e, if_neg (by rw [e]; decide), if_neg (by rw [e]; decide)]
  unfold Gg
  rw [if_pos hp]
  have : DY p g.f g.h = none := hgp ▸ GF.mpr (sd.ok g hg)
  show _ = (DY p g.f g.h).or _
  rw [this]
  rfl
 ·rw [if_neg (by rw [e]; decide), if_pos e, if_pos e]
  unfold Db
  rw [gof]
  rfl
 ·rw [if_neg (by rw [e]; decide), if_neg (by rw [e]; decide), if_neg (by rw [e]; decide), if_pos e]
  unfold Db
  rw [gof]
  rfl
theorem UU {w : Str} {gs : List G} {past : List (List G)} {p x y : Int} (wd : Wrd w) (nb : w ≠ "back") : (w = "put" → p ∈ AT gs → BX w gs past p x y = some .taken) ∧ (w ≠ "put" → p ∉ AT gs → BX w gs past p x y = some .nogate) := by
 constructor
 ·intro e hp
  unfold BX Jd
  rw [if_neg nb, if_pos e, if_pos hp]
 ·intro np hp
  unfold BX
  rw [if_neg nb, if_neg np]
  unfold Gg Db
  rw [CM.mpr hp, if_neg hp]
  split
  ·rfl
  ·split <;> rfl
theorem Re {H : Hp} {D : Addr} {gs : List G} {x : Int} {o : Option V} (hn : Ap gs x = none → o = none) (hs : ∀ g, Ap gs x = some g → ∃ a, o = some (.ref a) ∧ H a = some (.tup [.int g.f, .int g.h])) : o.isSome = decide (x ∈ AT gs) := by
 cases hg : Ap gs x with
 | none => rw [hn hg, za (CM.mp hg)]; rfl
 | some g =>
  obtain ⟨a, rfl, _⟩ := hs g hg
  obtain ⟨h1, h2⟩ := Bc hg
  rw [z8 (zf.mpr ⟨g, h1, h2⟩)]
  rfl
open PySem.W PySem.Calls
noncomputable def Kh (tb : String → Option Builtin) (p : Program) (w : World) (n₀ : Nat) (ann : Option Value) : Nat → SharedT → Thread → Option SharedT
 | 0, _, _ => none
 | n + 1, s, t => match through t with
  | true => some s
  | false => match stepOk n₀ ann t with
   | false => none
   | true => match stepT (denote tb) p w s t with
    | some (s', t') => Kh tb p w n₀ ann n s' t'
    | none => none
theorem Mu {tb : String → Option Builtin} {p : Program} {w : World} {n₀ : Nat} {ann : Option Value} : ∀ {n : Nat} {s s' : SharedT} {t : Thread}, Kh tb p w n₀ ann n s t = some s' → topRun tb p w n₀ ann n s.abs t = some s'.abs
 | 0, _, _, _, h => by cases h
 | n + 1, s, s', t, h => by
  unfold Kh at h
  unfold topRun
  cases he : through t with
  | true => rw [he] at h; cases h; rfl
  | false =>
   rw [he] at h
   cases hk : stepOk n₀ ann t with
   | false => rw [hk] at h; cases h
   | true =>
    rw [hk] at h
    cases hs : stepT (denote tb) p w s t with
    | none => rw [hs] at h; cases h
    | some r => obtain ⟨s₂, t₂⟩ := r; rw [hs] at h; rw [stepT_spec hs]; exact Mu h
noncomputable def Kof (as : List Addr) (h : Heap) : Frag := as.filterMap fun a => (h.get? a).map fun o => (a, o)
theorem Zp (as : List Addr) (h : Heap) : (Kof as h).In h := by
 intro a o e
 induction as with
 | nil => cases e
 | cons b r ih =>
  simp only [Kof, qD] at e
  cases hb : h.get? b with
  | none => rw [hb] at e; exact ih e
  | some ob =>
   rw [hb] at e
   simp only [qM, List.lookup] at e
   split at e
   ·rename_i q; cases e; rw [beq_iff_eq.mp q]; exact hb
   ·exact ih e
noncomputable def SS (t : BT) (n a : Nat) : Option Obj := match Nat.blt a n with
 | true => alive ((t.get a).getD default)
 | false => none
noncomputable def T8 (as : List Addr) (s : SharedT) : Frag := as.filterMap fun a => (SS s.tree s.n a).map fun o => (a, o)
theorem S7 (t : BT) (n : Nat) (life : Life) (a : Nat) : (absHeap t n life).get? a = SS t n a := by
 unfold SS
 cases h : Nat.blt a n with
 | true =>
  have h' : a < n := by simpa [Nat.blt_eq] using h
  show _ = alive ((t.get a).getD default)
  unfold Heap.get?
  rw [absHeap_at, if_pos h']
  generalize (t.get a).getD default = o
  obtain ⟨c, d, dt, sl⟩ := o
  cases dt <;> rfl
 | false =>
  have h' : ¬ a < n := by intro q; rw [Nat.blt_eq.mpr q] at h; cases h
  exact abs_get_none h'
theorem WJ (as : List Addr) (s : SharedT) : Kof as s.abs.heap = T8 as s := by
 unfold Kof T8
 congr 1
 funext a
 show ((absHeap s.tree s.n s.life).get? a).map _ = _
 rw [S7]
noncomputable def Ui : Nat → BT → List Obj → BT
 | _, t, [] => t
 | i, t, o :: r => Ui (i + 1) (t.ins i o) r
noncomputable def Vb (P : Params) (os : OsState) : SharedT := ⟨Ui 0 .nil (boot_heap P).objs.toList, 11, {}, #[], boot_drawn, boot_toks, os⟩
theorem UG (P : Params) (os : OsState) : (Vb P os).abs = ⟨boot_heap P, #[], boot_drawn, boot_toks, os⟩ := by kernel_rfl
theorem UE (P : Params) : ((boot_heap P).isNs mainGlobals && (#[] : Array GenState).size == 0, (boot_heap P).objs.size, (boot_heap P).nsMap mainGlobals "__annotations__") = (true, 11, some (.ref 6)) := by kernel_rfl
noncomputable def VH {β : Type} (p q : Program) (loose : List Str) (obs : SharedT → β) (P : Params) (s : SharedT) :=
 ((staticsOk (importedModules p.main.body) (boot_heap P) s.abs.heap && namesBound p s.abs.heap && gensDone s.abs && laidKept (boot_heap P) s.abs.heap), openSeen q loose (importedModules p.main.body) (fun _ => true) true s.abs, obs s)
noncomputable def LZ {β : Type} (p q : Program) (loose : List Str) (obs : SharedT → β) (M : Nat) (w : World) (os : OsState) :=
 (Kh treeTable p w 11 (some (.ref 6)) M (Vb w.params os) (topStub p)).map (VH p q loose obs w.params)
noncomputable def U1 {β : Type} (p : Program) (obs : SharedT → β) (M : Nat) (w : World) (os : OsState) :=
 (Kh treeTable p w 11 (some (.ref 6)) M (Vb w.params os) (topStub p)).map obs
theorem Sf {β : Type} {p q : Program} {loose : List Str} {B : SharedT → β} {M : Nat} {w : World} {os : OsState} {v : β} (e1 : LZ p q loose (fun _ => ()) M w os = some (true, openGood q loose, ())) (e2 : U1 p B M w os = some v) : LZ p q loose B M w os = some (true, openGood q loose, v) := by
 obtain ⟨s, r, l⟩ := ze.mp e1
 obtain ⟨s', r', l'⟩ := ze.mp e2
 obtain rfl : s = s' := zN (r.symm.trans r')
 obtain ⟨l1, l2, -⟩ : _ ∧ _ ∧ _ := by simpa only [VH, Prod.mk.injEq] using l
 unfold LZ
 rw [r]
 exact congrArg some (Prod.ext l1 (Prod.ext l2 l'))
theorem Wb {p q : Program} {loose : List Str} {β : Type} {Yf : Shared → β} {obs : SharedT → β} {v : β} {N M : Nat}
  (e : opening p = plainProg p.main.scope.names) (hN : Nat.ble 600 N = true) (f : ∀ s, fenceModules? p s = some s) (le : Nat.ble M N = true) (hY : ∀ s : SharedT, Yf s.abs = obs s)
  (run : ∀ (w : World) (os : OsState), LZ p q loose obs M w os = some (true, openGood q loose, v)) : LeftO p q loose (fun _ => true) Yf (fun _ => v) N := fun w => by
 have open_ := boot_open e hN f w
 obtain ⟨⟨h, gs, d, k, os⟩, e1, e2⟩ := ze.mp open_
 obtain ⟨rfl, rfl, rfl, rfl⟩ : h = boot_heap w.params ∧ gs = #[] ∧ d = boot_drawn ∧ k = boot_toks := by simpa using e2
 obtain ⟨z1, z2, z3⟩ : _ ∧ _ ∧ _ := by simpa only [Prod.mk.injEq] using UE w.params
 obtain ⟨sT, r0, l0⟩ := ze.mp (run w os)
 obtain ⟨l1, l2, l3⟩ : _ ∧ _ ∧ _ := by simpa only [VH, Prod.mk.injEq] using l0
 have r1 := Mu r0
 rw [UG] at r1
 have r := topRun_mono (N - M) _ _ _ _ r1
 rw [show M + (N - M) = N by have := Nat.le_of_ble_eq_true le; lia] at r
 have t : topFrom treeTable p w N ⟨boot_heap w.params, #[], boot_drawn, boot_toks, os⟩ = some sT.abs := by
  unfold topFrom
  dsimp only
  rw [z1, z2, z3, r]
  show (match staticsOk (importedModules p.main.body) (boot_heap w.params) sT.abs.heap && namesBound p sT.abs.heap && gensDone sT.abs && laidKept (boot_heap w.params) sT.abs.heap with | true => _ | false => _) = _
  rw [l1]
 unfold openEnds
 rw [e1]
 show (topFrom treeTable p w N _).map _ = _
 rw [t]
 exact congrArg some (Prod.ext l2 ((hY sT).trans l3))
noncomputable abbrev Seen := Option (Str × Str × Arguments × List Stmt × Scope × Addr × List (Str × Addr) × Addr × Bool × List Int)
noncomputable def Rj : List Value → Option (List Int)
 | [] => some []
 | .int i _ :: r => (Rj r).map (i :: ·)
 | _ => none
noncomputable def dfl (K : Frag) : Value → Option (List Int)
 | .none => some []
 | .ref d => match K.lookup d with
  | some ⟨_, _, .seq vs _, _⟩ => match Rj vs.toList with
   | some (i :: r) => some (i :: r)
   | _ => none
  | _ => none
 | _ => none
noncomputable def Ur (K : Frag) (f : Addr) (qual : Str) : Seen := match K.lookup f with
 | some ⟨_, _, .func ⟨nm, q, ps, .stmts b, sc, g, cl, dV, _, _, _, _, cd, _, bi⟩, _⟩ => match dfl K dV with
  | some ds => some (nm, q, ps, b, sc, g, cl, bi, codeIn K cd qual && keepIn K (.ref f), ds)
  | none => none
 | _ => none
noncomputable def A5 (K : Frag) (x : Str) : Seen := match nsIn K mainGlobals x with
 | some (some (.ref f)) => Ur K f x
 | _ => none
noncomputable def DS (K : Frag) (c x qual : Str) : Seen := match nsIn K mainGlobals c with
 | some (some (.ref C)) => match findIn K (.ref C) x with
  | some (some (.ref f)) => match isFn K (.ref f) with
   | true => Ur K f qual
   | false => none
  | _ => none
 | _ => none
noncomputable def An (x qual : Str) (st : Stmt) (ds : List Int) : Seen := some (x, qual, Bt st, BH st, AG st, mainGlobals, [], builtinsNs, true, ds)
noncomputable def aW (K : Frag) (c : Str) (fs : List Str) : Bool := match nsIn K mainGlobals c with
 | some (some (.ref C)) => plainGet K C Str.empty && hasDictIn K C && plainOver K C && findIn K (.ref C) "__setattr__" == some (some (.builtin "object.__setattr__")) && makesIn K C && keepIn K (.ref C) && fs.all fun f => findIn K (.ref C) f == some none
 | _ => false
noncomputable def J8 (K : Frag) (c : Str) : Bool := match nsIn K mainGlobals c with
 | some (some (.ref C)) => excIn K C bmV "ValueError.__new__"
 | _ => false
noncomputable def aV (K : Frag) (a b : Str) : Option Bool := match nsIn K mainGlobals a, nsIn K mainGlobals b with
 | some (some (.ref A)), some (some (.ref B)) => exmOne K (.ref A) (.ref B)
 | _, _ => none
noncomputable def RX (K : Frag) (x : Str) : Option Int := match nsIn K mainGlobals x with
 | some (some (.int i _)) => some i
 | _ => none
noncomputable def Go (K : Frag) (x : Str) : Bool := match nsIn K mainGlobals x with
 | some none => true
 | _ => false
section
variable {K : Frag}
theorem RO {v : Value} (e : dfl K v = some []) : v = .none := by
 unfold dfl at e
 split at e
 ·rfl
 ·repeat' split at e
  all_goals cases e
 ·cases e
theorem PX : ∀ {vs : List Value} {is : List Int}, Rj vs = some is → ∃ ts : List Tok, ts.length = is.length ∧ vs = is.zipWith Value.int ts
 | [], is, e => by cases e; exact ⟨[], rfl, rfl⟩
 | v :: r, is, e => by
  unfold Rj at e
  split at e
  ·cases e; rename_i h; cases h
  ·rename_i i t r' h
   cases h
   cases h2 : Rj r with
   | none => rw [h2] at e; cases e
   | some js =>
    rw [h2] at e
    cases e
    obtain ⟨ts, hl, rfl⟩ := PX h2
    exact ⟨t :: ts, by simp [hl], rfl⟩
  ·cases e
theorem VN {v : Value} {i : Int} {r : List Int} (e : dfl K v = some (i :: r)) : ∃ d cl di n sl ts, v = .ref d ∧ ts.length = (i :: r).length ∧ K.lookup d = some ⟨cl, di, .seq ((i :: r).zipWith Value.int ts).toArray n, sl⟩ := by
 unfold dfl at e
 split at e
 ·cases e
 ·rename_i d
  split at e
  ·rename_i cl di vs n sl hl
   split at e
   ·rename_i j r' h
    cases e
    obtain ⟨ts, h1, h2⟩ := PX h
    refine ⟨d, cl, di, n, sl, ts, rfl, h1, ?_⟩
    rw [hl, ← h2]
   ·cases e
  ·cases e
 ·cases e
theorem Py {f : Addr} {x qual : Str} {st : Stmt} {ds : List Int} (e : Ur K f qual = An x qual st ds) : ∃ (oc : Value) (od : Option Addr) (sl : Array (Option Value)) (dV kV dc pm : Value) (an : Option Addr) (cd ct : Value),
  K.lookup f = some ⟨oc, od, .func (fnOf x qual (Bt st) (BH st) (AG st) dV kV dc pm an cd ct), sl⟩ ∧ codeIn K cd qual = true ∧ keepIn K (.ref f) = true ∧ dfl K dV = some ds := by
 unfold Ur An at e
 split at e
 ·rename_i oc od nm q ps b sc g cl dV kV dc pm an cd ct bi sl hl
  split at e
  ·rename_i ds' hd
   simp only [Option.some.injEq, Prod.mk.injEq, Bool.and_eq_true] at e
   obtain ⟨rfl, rfl, rfl, rfl, rfl, rfl, rfl, rfl, ⟨h1, h2⟩, rfl⟩ := e
   exact ⟨oc, od, sl, dV, kV, dc, pm, an, cd, ct, hl, h1, h2, hd⟩
  ·cases e
 ·cases e
theorem S8 {x : Str} {st : Stmt} (e : A5 K x = An x x st []) : ∃ (f : Addr) (oc : Value) (od : Option Addr) (sl : Array (Option Value)) (kV dc pm : Value) (an : Option Addr) (cd ct : Value),
  nsIn K mainGlobals x = some (some (.ref f)) ∧ K.lookup f = some ⟨oc, od, .func (fnOf x x (Bt st) (BH st) (AG st) .none kV dc pm an cd ct), sl⟩ ∧ codeIn K cd x = true ∧ keepIn K (.ref f) = true := by
 unfold A5 at e
 split at e
 ·rename_i f hf
  obtain ⟨oc, od, sl, dV, kV, dc, pm, an, cd, ct, h1, h2, h3, h4⟩ := Py e
  cases RO h4
  exact ⟨f, oc, od, sl, kV, dc, pm, an, cd, ct, hf, h1, h2, h3⟩
 ·cases e
theorem XI {C : Addr} {c x qual : Str} {st : Stmt} {ds : List Int} (hc : nsIn K mainGlobals c = some (some (.ref C))) (e : DS K c x qual = An x qual st ds) : ∃ f : Addr, findIn K (.ref C) x = some (some (.ref f)) ∧ isFn K (.ref f) = true ∧ Ur K f qual = An x qual st ds := by
 unfold DS at e
 rw [hc] at e
 dsimp only at e
 split at e
 ·rename_i f hf
  split at e
  ·rename_i h
   exact ⟨f, hf, h, e⟩
  ·cases e
 ·cases e
theorem WQ {C : Addr} {c x qual : Str} {st : Stmt} (hc : nsIn K mainGlobals c = some (some (.ref C))) (e : DS K c x qual = An x qual st []) : ∃ (f : Addr) (oc : Value) (od : Option Addr) (sl : Array (Option Value)) (kV dc pm : Value) (an : Option Addr) (cd ct : Value),
  findIn K (.ref C) x = some (some (.ref f)) ∧ isFn K (.ref f) = true ∧ K.lookup f = some ⟨oc, od, .func (fnOf x qual (Bt st) (BH st) (AG st) .none kV dc pm an cd ct), sl⟩ ∧ codeIn K cd qual = true ∧ keepIn K (.ref f) = true := by
 obtain ⟨f, hf, hi, e⟩ := XI hc e
 obtain ⟨oc, od, sl, dV, kV, dc, pm, an, cd, ct, h1, h2, h3, h4⟩ := Py e
 cases RO h4
 exact ⟨f, oc, od, sl, kV, dc, pm, an, cd, ct, hf, hi, h1, h2, h3⟩
theorem Vp {C : Addr} {c x qual : Str} {st : Stmt} {i : Int} (hc : nsIn K mainGlobals c = some (some (.ref C))) (e : DS K c x qual = An x qual st [i]) : ∃ (f : Addr) (oc : Value) (od : Option Addr) (sl : Array (Option Value)) (d : Addr) (kV dc pm : Value) (an : Option Addr) (cd ct : Value) (dcl : Value) (ddi : Option Addr) (dn : Nat) (dsl : Array (Option Value)) (tk : Tok),
  findIn K (.ref C) x = some (some (.ref f)) ∧ isFn K (.ref f) = true ∧ K.lookup f = some ⟨oc, od, .func (fnOf x qual (Bt st) (BH st) (AG st) (.ref d) kV dc pm an cd ct), sl⟩ ∧ codeIn K cd qual = true ∧ keepIn K (.ref f) = true ∧ K.lookup d = some ⟨dcl, ddi, .seq #[.int i tk] dn, dsl⟩ := by
 obtain ⟨f, hf, hi, e⟩ := XI hc e
 obtain ⟨oc, od, sl, dV, kV, dc, pm, an, cd, ct, h1, h2, h3, h4⟩ := Py e
 obtain ⟨d, cl, di, n, sl', ts, rfl, hl, h5⟩ := VN h4
 match ts, hl with
 | [t], _ => exact ⟨f, oc, od, sl, d, kV, dc, pm, an, cd, ct, cl, di, n, sl', t, hf, hi, h1, h2, h3, h5⟩
theorem Wo {c : Str} {fs : List Str} (e : aW K c fs = true) : ∃ C : Addr, nsIn K mainGlobals c = some (some (.ref C)) ∧ plainGet K C Str.empty = true ∧ hasDictIn K C = true ∧ plainOver K C = true ∧
  findIn K (.ref C) "__setattr__" = some (some (.builtin "object.__setattr__")) ∧ makesIn K C = true ∧ keepIn K (.ref C) = true ∧ ∀ f ∈ fs, findIn K (.ref C) f = some none := by
 unfold aW at e
 split at e
 ·rename_i C hC
  simp only [Bool.and_eq_true, beq_iff_eq, List.all_eq_true] at e
  obtain ⟨⟨⟨⟨⟨⟨h1, h2⟩, h3⟩, h4⟩, h5⟩, h6⟩, h7⟩ := e
  exact ⟨C, hC, h1, h2, h3, h4, h5, h6, h7⟩
 ·cases e
theorem CH {c : Str} (e : J8 K c = true) : ∃ C : Addr, nsIn K mainGlobals c = some (some (.ref C)) ∧ excIn K C [.type "ValueError", .type "Exception", .type "BaseException", .type "object"] "ValueError.__new__" = true := by
 unfold J8 at e
 split at e
 ·rename_i C hC
  exact ⟨C, hC, e⟩
 ·cases e
theorem Wv {a b : Str} {A B : Addr} {r : Bool} (ha : nsIn K mainGlobals a = some (some (.ref A))) (hb : nsIn K mainGlobals b = some (some (.ref B))) (e : aV K a b = some r) : exmOne K (.ref A) (.ref B) = some r := by
 unfold aV at e
 rw [ha, hb] at e
 exact e
theorem IL {x : Str} {i : Int} (e : RX K x = some i) : ∃ t : Tok, nsIn K mainGlobals x = some (some (.int i t)) := by
 unfold RX at e
 split at e
 ·rename_i j t h
  cases e
  exact ⟨t, h⟩
 ·cases e
theorem BS {x : Str} (e : Go K x = true) : nsIn K mainGlobals x = some none := by
 unfold Go at e
 split at e
 ·assumption
 ·cases e
end
theorem YF {R : WRecords} {h : Heap} (e : R = []) : RecFacts R h := by
 subst e
 exact ⟨fun x hx => (nomatch hx), fun x hx => (nomatch hx), fun c c' a (hc : false = true) => (nomatch hc), fun c fs (hf : none = some fs) => (nomatch hf)⟩
theorem Wa {c A B : Prop} [Decidable c] {H : Hp} {D : Addr} {k : V} {o : Option V} (gt : Gk H D k o) (hA : c → o.isSome = true → A) (hB : (c → o.isSome = false) → B) :
  if decide c = true then (∃ x, Gk H D k x ∧ if x.isSome = true then A else B) else B := by
 by_cases hc : c
 ·rw [if_pos (z8 hc)]
  refine ⟨o, gt, ?_⟩
  cases ho : o.isSome with
  | true => rw [if_pos rfl]; exact hA hc ho
  | false => rw [if_neg zS]; exact hB fun _ => ho
 ·rw [if_neg (fun z => hc (z6 z))]
  exact hB fun z => absurd z hc
end TG
namespace L2
open PySem
theorem Vf {K : W.Frag} {tb : (Value → St → Hp → Prop) → TS} {ths : List (Value × TS)} {D : Gn} {σ : St} {H : Hp} (h : ∀ N : Value → St → Hp → Prop, (∀ cls σ' H', tHs K ths cls D σ' H' → N cls σ' H') → tb N D σ H) : tTry K tb ths D σ H := h _ fun _ _ _ z => z
end L2
namespace TG
open PySem L2
theorem Kp.free {b P : Addr} {H H' : Hp} (k : Kp b P H H') (hb : ∃ u, H' b = some u) (hP : ∃ u, H' P = some u) {D : Addr} (n : H' D = none) : H D = none := by
 cases q : H D with
 | none => rfl
 | some u =>
  by_cases h1 : D = b
  ·obtain ⟨_, e⟩ := hb
   rw [← h1, n] at e; cases e
  ·by_cases h2 : D = P
   ·obtain ⟨_, e⟩ := hP
    rw [← h2, n] at e; cases e
   ·rw [k D u h1 h2 q] at n; cases n
theorem Bch.live {C : Addr} {H : Hp} {b S P : Addr} {ow : List Addr} {gs : List G} {past : List (List G)} (h : Bch C H b S P ow gs past) : (∃ u, H b = some u) ∧ ∃ u, H P = some u := by
 obtain ⟨_, e⟩ := h.at_
 obtain ⟨_, e2, _⟩ := h.pa
 exact ⟨⟨_, e⟩, ⟨_, e2⟩⟩
theorem D6 {w : Str} {gs : List G} {past : List (List G)} {p : Int} (nb : w ≠ "back") : JA w gs past p = past ++ [gs] := if_neg nb
theorem FA {w : Str} {gs : List G} {past : List (List G)} {p x y : Int} (nb : w ≠ "back") (nt : w ≠ "take") : Dc w gs past p x y = DG gs p [⟨p, (BI w gs p x y).1, (BI w gs p x y).2⟩] := by
 unfold Dc
 rw [if_neg nb, if_neg nt]
theorem NU {w : Str} {gs : List G} {past : List (List G)} {p x y : Int} (e : w = "take") : Dc w gs past p x y = DG gs p [] := by
 unfold Dc
 rw [if_neg (by rw [e]; decide), if_pos e]
theorem LI {w : Str} {gs : List G} {p x y : Int} (e : w = "put") : BI w gs p x y = (x, y) := if_pos e
theorem Nj {w : Str} {gs : List G} {p x y : Int} {g : G} (e : w = "lift") (hg : Ap gs p = some g) : BI w gs p x y = (g.f + x, g.h + y) := by
 unfold BI
 rw [if_neg (by rw [e]; decide), if_pos e, hg]
 rfl
theorem Ni {w : Str} {gs : List G} {p x y : Int} {g : G} (e : w = "sink") (hg : Ap gs p = some g) : BI w gs p x y = (g.f + -x, g.h + -y) := by
 unfold BI
 rw [if_neg (by rw [e]; decide), if_neg (by rw [e]; decide), if_pos e, hg]
 show (g.f - x, g.h - y) = _
 rw [Int.sub_eq_add_neg, Int.sub_eq_add_neg]
theorem SM {w : Str} {gs : List G} {p x y : Int} {g : G} (e : w = "take") (hg : Ap gs p = some g) : BI w gs p x y = (g.f, g.h) := by
 unfold BI
 rw [if_neg (by rw [e]; decide), if_neg (by rw [e]; decide), if_neg (by rw [e]; decide), hg]
 rfl
theorem Lh {w : Str} {gs : List G} {past : List (List G)} {p x y : Int} (e : w = "put") : BX w gs past p x y = Jd gs past p x y := by
 unfold BX
 rw [if_neg (by rw [e]; decide), if_pos e]
theorem JZ {w : Str} {gs : List G} {past : List (List G)} {p x y : Int} (e : w = "take") : BX w gs past p x y = Gg gs past p := by
 unfold BX
 rw [if_neg (by rw [e]; decide), if_neg (by rw [e]; decide), if_pos e]
theorem Mg {w : Str} {gs : List G} {past : List (List G)} {p x y : Int} (e : w = "lift") : BX w gs past p x y = Db gs past p x y := by
 unfold BX
 rw [if_neg (by rw [e]; decide), if_neg (by rw [e]; decide), if_neg (by rw [e]; decide), if_pos e]
theorem MY {w : Str} {gs : List G} {past : List (List G)} {p x y : Int} (e : w = "sink") : BX w gs past p x y = Db gs past p (-x) (-y) := by
 unfold BX
 rw [if_neg (by rw [e]; decide), if_neg (by rw [e]; decide), if_neg (by rw [e]; decide), if_neg (by rw [e]; decide)]
theorem Fz {w : Str} {gs : List G} {past : List (List G)} {p x y : Int} (e : w = "back") : BX w gs past p x y = JO past p := if_pos e
theorem Wrd.last {w : Str} (h : Wrd w) (h1 : w ≠ "put") (h2 : w ≠ "take") (h3 : w ≠ "lift") (h4 : w ≠ "sink") : w = "back" := by
 rcases h with e | e | e | e | e
 ·exact absurd e h1
 ·exact absurd e h2
 ·exact absurd e h3
 ·exact absurd e h4
 ·exact e
noncomputable def DL (D L : Addr) (H H' : Hp) : Prop := ∀ a u, a ≠ D → a ≠ L → H a = some u → H' a = some u
theorem DL.of {D L : Addr} {H H' : Hp} (s : AI H H') : DL D L H H' := fun _ _ _ _ e => s _ _ e
theorem DL.trans {D L : Addr} {H H1 H2 : Hp} (a : DL D L H H1) (b : DL D L H1 H2) : DL D L H H2 := fun c u h1 h2 e => b c u h1 h2 (a c u h1 h2 e)
theorem DL.updD {D L : Addr} {H : Hp} {o : HO} : DL D L H (upd H D o) := fun _ _ h _ e => (AL h).trans e
theorem DL.updL {D L : Addr} {H : Hp} {o : HO} : DL D L H (upd H L o) := fun _ _ _ h e => (AL h).trans e
section
variable {C D L b S P : Addr} {ow : List Addr} {gs : List G} {past : List (List G)} {H H' : Hp} {kvs : List (Key × V)} {xs : List V}
theorem DL.tup (k : DL D L H H') (eD : H D = some (.dK kvs)) (eL : H L = some (.lst xs)) {a : Addr} {ys : List V} (e : H a = some (.tup ys)) : H' a = some (.tup ys) :=
 k a _ (BQ e eD fun z => by cases z) (BQ e eL fun z => by cases z) e
theorem DL.dk (k : DL D L H H') (eL : H L = some (.lst xs)) {a : Addr} {ys : List (Key × V)} (ha : a ≠ D) (e : H a = some (.dK ys)) : H' a = some (.dK ys) :=
 k a _ ha (BQ e eL fun z => by cases z) e
theorem Bch.dl (hb : Bch C H b S P ow gs past) (eD : H D = some (.dK kvs)) (eL : H L = some (.lst xs)) (hL : L ∉ ow) (k : DL D L H H') : Bch C H' b S P ow gs past :=
 hb.keep fun a u h e => by
  rcases h with h | h | ⟨ys, h⟩
  ·obtain ⟨dx, eb⟩ := hb.at_
   subst h
   exact k a u (BQ eb eD fun z => by cases z) (BQ eb eL fun z => by cases z) e
  ·obtain ⟨zs, ea⟩ := hb.lv a h
   exact k a u (BQ ea eD fun z => by cases z) (fun z => hL (z ▸ h)) e
  ·subst h
   exact k.tup eD eL e
theorem Kept.dl (eD : H D = some (.dK kvs)) (eL : H L = some (.lst xs)) (k : DL D L H H') (lD : ∃ u, H' D = some u) (lL : ∃ u, H' L = some u) : Kept (L :: ow) H H' (L :: ow) where
 tup := fun c ys e => k.tup eD eL e
 lst := fun c ys n e => k c _ (BQ e eD fun z => by cases z) (fun z => n (by rw [z]; exact zR)) e
 frz := fun c o u e => k c _ (BQ e eD fun z => by cases z) (BQ e eL fun z => by cases z) e
 off := fun _ h => .inl h
 live := fun c u e => by
  by_cases h1 : c = D
  ·rw [h1]; exact lD
  ·by_cases h2 : c = L
   ·rw [h2]; exact lL
   ·exact ⟨u, k c u h1 h2 e⟩
 tbl := fun c ps e => k c _ (BQ e eD fun z => by cases z) (BQ e eL fun z => by cases z) e
theorem A0.copy {d d' : Addr} (h : A0 H d gs) (e : H d = some (.dK kvs)) (e' : H' d' = some (.dK kvs)) (kt : ∀ a ys, H a = some (.tup ys) → H' a = some (.tup ys)) : A0 H' d' gs := by
 obtain ⟨kvs', ks, e1, e2, p, q⟩ := h.at_
 rw [e] at e1
 cases e1
 exact ⟨kvs, ks, e', e2, p, fun g hg => (q g hg).imp fun a z => ⟨z.1, kt _ _ z.2⟩⟩
theorem A0.dl {d : Addr} (h : A0 H d gs) (hd : d ≠ D) (eD : H D = some (.dK kvs)) (eL : H L = some (.lst xs)) (k : DL D L H H') : A0 H' d gs :=
 h.keep (fun _ e => k.dk eL hd e) fun _ _ e => k.tup eD eL e
theorem Paired.dl {ds : List Addr} (pr : Paired (A0 H) ds past) (hd : D ∉ ds) (eD : H D = some (.dK kvs)) (eL : H L = some (.lst xs)) (k : DL D L H H') : Paired (A0 H') ds past :=
 Paired.keepM pr fun x y hx q => q.dl (D := D) (fun z => hd (by rw [← z]; exact hx)) eD eL k
end
end TG
namespace L2
theorem XN {K : PySem.W.Frag} {H : Hp} {p : PySem.Addr} {kvs : List (Key × V)} (e : H p = some (.dK kvs)) : tyV K "dict" (.ref p) H := .inr (.inr (.inl ⟨rfl, .inl ⟨_, e⟩⟩))
theorem tyV_l {K : PySem.W.Frag} {H : Hp} {p : PySem.Addr} {xs : List V} (e : H p = some (.lst xs)) : tyV K "list" (.ref p) H := .inl ⟨rfl, _, SqL.of e⟩
end L2
namespace TG
open PySem L2
theorem Pw {w : Str} {gs : List G} {past : List (List G)} {p x y : Int} {e : Err} (h : BX w gs past p x y = some e) : aft w gs past p x y = (gs, past) := by unfold aft; rw [h]
theorem P5 {w : Str} {gs : List G} {past : List (List G)} {p x y : Int} (h : BX w gs past p x y = none) : aft w gs past p x y = (Dc w gs past p x y, JA w gs past p) := by unfold aft; rw [h]
theorem RM {K : W.Frag} {H H' : Hp} {a : Addr} {xs : List V} (h : SqT K H a xs) (k : ∀ ys, H a = some (.tup ys) → H' a = some (.tup ys)) (kf : ∀ o u, H a = some (.frz o u) → H' a = some (.frz o u)) : SqT K H' a xs := by
 rcases h with (h | ⟨o, h⟩) | h
 ·exact .inl (.inl (k _ h))
 ·exact .inl (.inr ⟨o, kf _ _ h⟩)
 ·exact .inr h
theorem Bch.sqt {K : W.Frag} {C : Addr} {H H' : Hp} {b S P : Addr} {ow : List Addr} {gs : List G} {past : List (List G)} (h : Bch C H b S P ow gs past) (k : Kp b P H H') {a : Addr} {xs : List V} (e : SqT K H a xs) : SqT K H' a xs :=
 RM e (fun _ e => h.tup k e) fun _ _ e => k a _ (h.neb e fun _ _ _ z => by cases z) (h.nep e fun _ z => by cases z) e
theorem Kept.sqt {K : W.Frag} {ow ow' : List Addr} {H H' : Hp} (k : Kept ow H H' ow') {a : Addr} {xs : List V} (e : SqT K H a xs) : SqT K H' a xs := RM e (fun _ e => k.tup _ _ e) fun _ _ e => k.frz _ _ _ e
end TG
namespace L2
open PySem
noncomputable def isInt : V → Bool
 | .int _ => true
 | _ => false
theorem Ux {l : List V} {e : Int} (h : l.all isInt = true) (h0 : 0 ≤ e) (h1 : e < l.length) : ∃ i, atI l e = some (.int i) := by
 have hj : e.toNat < l.length := by lia
 have hi := List.all_eq_true.mp h _ (zV hj)
 have q : atI l e = some l[e.toNat] := by
  obtain ⟨j, rfl⟩ : ∃ j : Nat, e = j := ⟨e.toNat, by lia⟩
  have hj' : j < l.length := by lia
  have z : ixN l.length (j : Int) = some j := by unfold ixN; simp; lia
  unfold atI
  rw [z]
  exact z4 hj'
 cases hv : l[e.toNat] with
 | int i => exact ⟨i, by rw [q, hv]⟩
 | _ => rw [hv] at hi; cases hi
theorem Qm {l : List V} {e : Int} {P : V → Prop} (h : l.all isInt = true) (h0 : 0 ≤ e) (h1 : e < l.length) (k : ∀ i, P (.int i)) : ∃ x, atI l e = some x ∧ P x := by
 obtain ⟨i, hi⟩ := Ux h h0 h1
 exact ⟨_, hi, k i⟩
end L2
namespace TG
open PySem L2
theorem Vu {gs : List G} {past : List (List G)} {p x y : Int} (h : gs ≠ []) : (aft "lift" gs past p x y).1 ≠ [] := by
 cases he : BX "lift" gs past p x y with
 | some e => rw [Pw he]; exact h
 | none =>
  rw [P5 he]
  show Dc "lift" gs past p x y ≠ []
  rw [FA (by decide) (by decide)]
  intro z
  have := (HN (gs := gs) (p := p) (o := [⟨p, (BI "lift" gs p x y).1, (BI "lift" gs p x y).2⟩]) (g := ⟨p, (BI "lift" gs p x y).1, (BI "lift" gs p x y).2⟩)).mpr (.inr (zK.mpr rfl))
  rw [z] at this
  cases this
theorem Y3 {K : W.Frag} {H : Hp} {D : Addr} {gs : List G} (hd : A0 H D gs) (l40 : gs.length ≤ 40) : ∃ (kvs : List (Key × V)) (ks : List Int), H D = some (.dK kvs) ∧ kvs.map (·.1) = ks.map Sum.inl ∧ ks.length = gs.length ∧ kvs.length = gs.length ∧ ks.length < 64 := by
 obtain ⟨kvs, ks, eD, e2, pm, _⟩ := hd.at_
 have lk := pm.length_eq
 rw [z5] at lk
 have lkv : kvs.length = ks.length := by have := congrArg List.length e2; simpa using this
 exact ⟨kvs, ks, eD, e2, lk, by lia, by lia⟩
end TG
namespace L2
open PySem PySem.Spec PyProof.Rows
theorem NM (ns : List Int) : ∀ i, i ≤ ns.length → (List.range i).map (fun i => ns.getD i 0) = ns.take i
 | 0, _ => rfl
 | i + 1, h => by
  rw [List.range_succ, zW, NM ns i (by lia), zM (show i < ns.length by lia)]
  congr 1
  show [ns.getD i 0] = _
  rw [zI, z4 (show i < ns.length by lia)]
  rfl
theorem O8 (ns : List Int) : ∀ i, i ≤ ns.length → ((firstMet (fun i => ns.getD i 0) i).length = i ↔ (ns.take i).Nodup)
 | 0, _ => ⟨fun _ => List.nodup_nil, fun _ => rfl⟩
 | i + 1, h => by
  have hi : i < ns.length := by lia
  have ih := O8 ns i (by lia)
  have le := firstMet_length_le (fun i => ns.getD i 0) i
  have hv : ns.getD i 0 = ns[i] := by
   rw [zI, z4 hi]
   rfl
  have ha : (firstMet (fun i => ns.getD i 0) i).any (· == ns.getD i 0) = true ↔ ns[i] ∈ ns.take i := by
   rw [firstMet_any, NM ns i (by lia), hv, List.any_eq_true]
   constructor
   ·rintro ⟨x, hx, e⟩
    rw [← (beq_iff_eq.mp e)]; exact hx
   ·intro hx
    exact ⟨_, hx, beq_iff_eq.mpr rfl⟩
  rw [firstMet_succ, step_length, zM hi, List.nodup_append]
  by_cases hc : ns[i] ∈ ns.take i
  ·rw [if_pos (ha.mpr hc)]
   constructor
   ·intro z; lia
   ·rintro ⟨_, _, z⟩
    exact absurd rfl (z _ hc _ (zK.mpr rfl))
  ·rw [if_neg (fun z => hc (ha.mp z))]
   constructor
   ·intro z
    refine ⟨ih.mp (by lia), (by simp), fun a ha' b hb e => ?_⟩
    rw [zK.mp hb] at e
    exact hc (e ▸ ha')
   ·rintro ⟨z, _⟩
    have := ih.mpr z
    lia
section
variable {X : Cx}
noncomputable def JH (K : W.Frag) : List V → Hp → VK → Prop := fun xs H Q => ∃ l, xs = [.ref l] ∧ ∃ ns : List Int, SqL K H l (ns.map V.int) ∧ ns.length < 4000 ∧
 ∀ (D : Addr) (H' : Hp) (S : Int → Bool) (n : Nat), H D = none → AI H H' → H' D = some (.set S n) → n ≤ ns.length → (n = ns.length ↔ ns.Nodup) → Q (.ref D) H'
theorem Te (hc : X.calm = true) : Bl X (.type "set") (JH X.K) := by
 intro pins s σ H xs us Q I r h
 obtain ⟨l, rfl, ns, hl, h4, q⟩ := h
 obtain ⟨u, rfl, ru⟩ := vals1 r
 cases ru
 obtain ⟨its, rv, pl, hz⟩ := I.list hl
 have hlen := rv.length
 rw [z5] at hlen
 have hn : its.toArray.size = ns.length := by rw [zQ, ← hlen]
 refine call_set_list (I.ok.hd hc) pl.isList (intsAre_of rv) (by rw [hn]; unfold scanBound; lia) fun h' tk hS kp => ?_
 rw [hn] at hS
 have hfr : H s.heap.objs.size = none := I.hok.fresh (zG _)
 have hm := O8 ns ns.length (zG _)
 rw [zl] at hm
 exact ⟨.ref s.heap.objs.size, _, I.laid (t' := tk) (fun b o e => kp b o (zH e) e) (zG _) (show A3 X.prog X.w _ h' _ (.set _ _) from hS), rfl, q _ _ _ _ hfr (Aw hfr) AN (firstMet_length_le _ _) hm⟩
noncomputable def Ib : List V → Hp → VK → Prop := fun xs H Q => ∃ a, xs = [V.ref a] ∧ ∃ (S : Int → Bool) (n : Nat), H a = some (.set S n) ∧ Q (.int n) H
theorem Tu : Bl X (.builtin "len") Ib := by
 intro pins s σ H xs us Q I r h
 obtain ⟨a, rfl, S, n, ha, q⟩ := h
 obtain ⟨u, rfl, ru⟩ := vals1 r
 cases ru
 obtain ⟨o, es, ep, t, hg, hex, hd, _, _, hsz, hf, rfl⟩ := (show s.heap.SetOf (intKind X.prog X.w) a S n from I.hok a _ ha)
 exact call_len_set hg hex hd hf (by unfold scanBound at hsz; lia) ⟨.int es.size, H, I.tok _, ⟨_, rfl⟩, q⟩
end
end L2
namespace TG
open PySem L2
noncomputable def Cb (gs : List G) (ps : List Int) : List G := ps.filterMap (Ap gs)
theorem FB {gs : List G} {ps : List Int} {g : G} (h : g ∈ Cb gs ps) : g ∈ gs := by
 obtain ⟨p, _, e⟩ := List.mem_filterMap.mp h
 exact (Bc e).1
theorem Bh {gs : List G} : ∀ {ps : List Int}, (∀ p ∈ ps, p ∈ AT gs) → AT (Cb gs ps) = ps
 | [], _ => rfl
 | p :: ps, h => by
  have ih := Bh (gs := gs) (ps := ps) fun q hq => h q (zD _ hq)
  cases hg : Ap gs p with
  | none => exact absurd (h p zR) (CM.mp hg)
  | some g =>
   have e : Cb gs (p :: ps) = g :: Cb gs ps := by unfold Cb; rw [qD, hg]
   rw [e]
   show g.p :: AT (Cb gs ps) = _
   rw [ih, (Bc hg).2]
theorem Fg {gs : List G} {ps : List Int} (h : ∀ p ∈ ps, p ∈ AT gs) : (Cb gs ps).length = ps.length := by
 have := congrArg List.length (Bh h)
 rwa [z5] at this
theorem Vw {gs : List G} (ha : Asc gs) {ps : List Int} {g : G} (hg : g ∈ Cb gs ps) : Ap gs g.p = some g := Hw ha (FB hg)
theorem Ws {K : W.Frag} {a : Addr} {gs : List G} {te : TE} {caps : St} {D : Addr} {H1 : Hp} {Q : Hp → Prop} (hl : SqL K H1 a ((AT gs).map V.int)) (hD : H1 D = none) (hz : gs.length ≤ 1000)
  (he : ∀ g H (R : VK), g ∈ gs → AI H1 H → (∀ p, H p = some (.tup (G.vs g)) → R (.ref p) H) → te (some (.int g.p) :: caps) H R)
  (hd : ∀ H as, AI H1 H → H D = some (.lst (as.map V.ref)) → Ak H as gs → Q H) : FH te En caps (Itl K a) D H1 Q := by
 have hlen : ((AT gs).map V.int).length = gs.length := by rw [z5, z5]
 refine Ot (xs := (AT gs).map V.int) (fun i ys H => ∃ as : List Addr, ys = as.map V.ref ∧ AI H1 H ∧ H D = some (.lst ys) ∧ Ak H as (gs.take i)) ⟨[], rfl, Aw hD, AN, .nil⟩ (fun _ _ H _ ⟨_, _, s1, _⟩ => s1.seq hl) ?_ ?_
 ·rintro i x ys H hx hy ⟨as, rfl, s1, e1, g1⟩
  have hi : i < gs.length := by
   have := (zA.mp hx).1
   lia
  have ex : x = V.int gs[i].p := by
   rw [zJ, zJ, z4 hi] at hx
   exact (zN hx).symm
  subst ex
  have et : gs.take (i + 1) = gs.take i ++ [gs[i]] := zM hi
  refine he gs[i] H _ (zV hi) s1 fun p ep => Nu.of (by rw [hlen, PySem.sizeLine_eq]; lia) (by lia) hy e1 ⟨as ++ [p], by rw [zW]; rfl, s1.updFresh hD, AN, ?_⟩
  rw [et]
  have kt : ∀ a xs, H a = some (.tup xs) → upd H D (.lst (as.map V.ref ++ [V.ref p])) a = some (.tup xs) := fun a xs e => (AL (BQ e e1 fun z => by cases z)).trans e
  exact Ak.append (g1.keep kt) (.cons (kt _ _ ep) .nil)
 ·rintro ys H hy ⟨as, rfl, s1, e1, g1⟩
  rw [hlen, zl] at g1
  exact hd H as s1 e1 g1
noncomputable def EM (ps : List Int) : Prop := ps = [] ∨ 40 < ps.length ∨ ¬ ps.Nodup
end TG
namespace L2
open PySem
theorem Xe : bootBuiltins "set" = some (.type "set") := by decide +kernel
open PySem.Spec PyProof.Rows
section
variable {X : Cx}
noncomputable def J3 (K : W.Frag) : R2 := fun x y H Q => ∃ a b, x = .ref a ∧ y = .ref b ∧ ∃ ns : List Int, SqL K H a (ns.map V.int) ∧ ∃ ms : List Int, SqL K H b (ms.map V.int) ∧ Q (.bl (decide (ns = ms))) H
end
end L2
namespace TG
open PySem L2
theorem sortS {K : W.Frag} {H : Hp} {D : Addr} {gs : List G} {Q : VK} (hd : A0 H D gs) (sd : Std gs) (k : ∀ (R : Addr) (H' : Hp), H R = none → AI H H' → H' R = some (.lst ((AT gs).map V.int)) → Q (.ref R) H') : NK K [.ref D] H Q := by
 obtain ⟨kvs, ks, eD, e2, pm, _⟩ := hd.at_
 have lk := pm.length_eq
 rw [z5] at lk
 refine ⟨D, rfl, kvs, ks, eD, e2, by have := sd.len; lia, fun R H' ks' n s e pm' so => ?_⟩
 have ek : ks' = AT gs := Jp so (Ik sd.asc) (pm'.trans pm)
 subst ek
 exact k R H' n s e
theorem Mp {t t' : Thr} {x y : G} (ot : OkT t) (ot' : OkT t') (lt : x.p < y.p) (tx : t.gap x.p x.f = 0) (ty : t.gap y.p y.h = 0) (px : t'.pas x) (py : t'.pas y) : t'.c * t.d ≤ t.c * t'.d := by
 have b0 := ot'.b0
 have d0 := ot'.d0
 have m := R6 ot (Int.mul_pos b0 d0) lt tx ty (D5.mp px) (D5.mp py)
 refine zj (a := t'.b) ?_ b0
 calc t'.b * (t'.c * t.d) = t'.c * t'.b * t.d := by grind
  _ ≤ t.c * (t'.b * t'.d) := m
  _ = t'.b * (t.c * t'.d) := by grind
theorem EV {t : Thr} {gs : List G} (ot : OkT t) (all : ∀ g ∈ gs, t.pas g) {u : List Int} (hf : By gs u) : u = [] :=
 hf.line (Int.mul_pos ot.b0 ot.d0) fun g hg => D5.mp (all g hg)
open PySem.W
section
variable {K : Frag} {mg : Str → Option Value} {h : Heap}
theorem Ad {x : Str} {st : Stmt} {ps : List Str} (X : K.In h) (G : h.Ns mainGlobals mg) (e : A5 K x = An x x st [])
  (b : ∀ (kV doc pm : Value) (an : Option Addr) (cdv ct : Value) (us : List Value), us.length = ps.length → bindArgs (fnOf x x (Bt st) (BH st) (AG st) .none kV doc pm an cdv ct) ⟨us, []⟩ = pure (ps.zip us)) : ∃ f fd, D K mg x st ps f fd := by
 obtain ⟨f, oc, od, sl, kV, dc, pm, an, cd, ct, a, l, c, k⟩ := S8 e
 exact ⟨f, _, LC l c k, mg_of X G a, (LC l c k).binds b⟩
theorem Bs {C : Addr} {c x qual : Str} {st : Stmt} {ps : List Str} (hc : nsIn K mainGlobals c = some (some (.ref C))) (e : DS K c x qual = An x qual st [])
  (b : ∀ (kV doc pm : Value) (an : Option Addr) (cdv ct : Value) (us : List Value), us.length = ps.length → bindArgs (fnOf x qual (Bt st) (BH st) (AG st) .none kV doc pm an cdv ct) ⟨us, []⟩ = pure (ps.zip us)) : ∃ f fd, DM K C x qual st ps f fd := by
 obtain ⟨f, oc, od, sl, kV, dc, pm, an, cd, ct, a, i, l, c, k⟩ := WQ hc e
 exact ⟨f, _, LC l c k, ⟨a, i, k⟩, (LC l c k).binds b⟩
theorem WI {C : Addr} {c x qual : Str} {st : Stmt} {ps : List Str} {j : Int} (hc : nsIn K mainGlobals c = some (some (.ref C))) (e : DS K c x qual = An x qual st [j])
  (b : ∀ (s : Shared) (d : Addr) (kV doc pm : Value) (an : Option Addr) (cdv ct : Value) (cl : Value) (di : Option Addr) (n : Nat) (sl : Array (Option Value)) (tk : Tok) (us : List Value), s.heap.get? d = some ⟨cl, di, .seq #[.int j tk] n, sl⟩ → us.length = ps.length → BindsTo s (fnOf x qual (Bt st) (BH st) (AG st) (.ref d) kV doc pm an cdv ct) ⟨us, []⟩ (ps.zip us))
  (bd : ∀ (s : Shared) (d : Addr) (kV doc pm : Value) (an : Option Addr) (cdv ct : Value) (cl : Value) (di : Option Addr) (n : Nat) (sl : Array (Option Value)) (tk : Tok) (us : List Value), s.heap.get? d = some ⟨cl, di, .seq #[.int j tk] n, sl⟩ → us.length + 1 = ps.length → BindsTo s (fnOf x qual (Bt st) (BH st) (AG st) (.ref d) kV doc pm an cdv ct) ⟨us, []⟩ (ps.zip (us ++ [.int j tk]))) : ∃ f fd, DMD K C x qual st ps f fd [.int j] := by
 obtain ⟨f, oc, od, sl, d, kV, dc, pm, an, cd, ct, dcl, ddi, dn, dsl, tk, a, i, l, c, k, lt⟩ := Vp hc e
 refine ⟨f, _, ⟨⟨_, _, _, _, _, _, _, _, _, _, rfl, l, c⟩, k⟩, ⟨a, i, k⟩, fun s us hK hl => ?_, ⟨[.int j tk], .cons ⟨_, rfl⟩ .nil, fun s us hK hl => ?_⟩⟩
 ·rw [qK] at hl ⊢
  exact b s d kV dc pm an cd ct dcl ddi dn dsl tk us (hK _ _ lt) hl
 ·exact bd s d kV dc pm an cd ct dcl ddi dn dsl tk us (hK _ _ lt) (by simpa using hl)
end
noncomputable def RD (a b c d : Int) : Prop := b < 1 ∨ d < 1 ∨ ∃ x ∈ [a, b, c, d], x < -999999999 ∨ 999999999 < x
noncomputable def Jk (a b c d : Int) (g : G) : Bool := decide (Pas a b c d g.p g.f g.h)
theorem Pq {K : W.Frag} {a : Addr} {as : List Addr} {gs : List G} {te : TE} {tc : TT} {caps : St} {D : Addr} {H1 : Hp} {Q : Hp → Prop} (P : G → Bool) (f : G → V) (hl : SqL K H1 a (as.map V.ref)) (ga : Ak H1 as gs) (hD : H1 D = none) (hz : gs.length ≤ 1000)
  (ht : ∀ v g H (R : Bool → Hp → Prop), g ∈ gs → AI H1 H → H v = some (.tup (G.vs g)) → (∀ H', AI H H' → R (P g) H') → tc (some (.ref v) :: caps) H R)
  (he : ∀ v g H (R : VK), g ∈ gs → AI H1 H → H v = some (.tup (G.vs g)) → R (f g) H → te (some (.ref v) :: caps) H R)
  (hd : ∀ H, AI H1 H → H D = some (.lst ((gs.filter P).map f)) → Q H) : FH te tc caps (Itl K a) D H1 Q := by
 have la := ga.len
 refine Ca (xs := as.map V.ref) (fun i ys H => ys = ((gs.take i).filter P).map f ∧ AI H1 H ∧ H D = some (.lst ys)) ⟨rfl, Aw hD, AN⟩ (fun _ _ H _ ⟨_, s1, _⟩ => s1.seq hl) ?_ ?_
 ·rintro i x ys H0 hx ⟨rfl, s0, e0⟩
  have hi : i < gs.length := by
   have := (zA.mp hx).1
   rw [z5] at this
   lia
  obtain ⟨v, hv, t1⟩ := ga.get (z4 hi)
  have ex : x = V.ref v := by
   rw [zJ, hv] at hx
   exact (zN hx).symm
  subst ex
  have et : gs.take (i + 1) = gs.take i ++ [gs[i]] := zM hi
  have hlen : (as.map V.ref).length = gs.length := by rw [z5, la]
  have hle : (((gs.take i).filter P).map f).length ≤ i := by
   rw [z5]
   exact zT (zw _ _) (List.length_take_le _ _)
  refine ht v gs[i] H0 _ (zV hi) s0 (s0.get t1) fun H s => ?_
  have s1 := s0.trans s
  have e1 := s.get e0
  by_cases hp : P gs[i] = true
  ·rw [if_pos hp]
   refine he v gs[i] H _ (zV hi) s1 (s1.get t1) ?_
   refine ⟨e1, by rw [PySem.sizeLine_eq]; lia, _, by lia, rfl, by lia, ?_, s1.updFresh hD, AN⟩
   rw [et, qJ, zo, if_pos hp, List.filter_nil, zW]
   rfl
  ·rw [if_neg hp]
   refine ⟨_, by lia, rfl, by lia, ?_, s1, e1⟩
   rw [et, qJ, zo, if_neg hp, List.filter_nil, qK]
 ·rintro ys H ⟨rfl, s1, e1⟩
  rw [z5, la, zl] at e1
  exact hd H s1 e1
theorem TW {a b c d : Int} (h1 : 1 ≤ b) (h2 : 1 ≤ d) (h3 : a.natAbs ≤ 999999999) (h4 : b.natAbs ≤ 999999999) (h5 : c.natAbs ≤ 999999999) (h6 : d.natAbs ≤ 999999999) : ¬ RD a b c d := by
 rintro (z | z | ⟨x, hx, z⟩)
 ·lia
 ·lia
 ·simp only [zL, List.not_mem_nil, or_false] at hx
  rcases hx with rfl | rfl | rfl | rfl <;> lia
end TG
namespace L2
open PySem PySem.Spec PyProof.Rows
section
variable {prog : Program} {w : World} {A : Around} {R : Result → Shared → Prop} {I : Addr} {fp wr : List Addr} {G : Array GenState → Array GenState → Prop} {n : Nat} {P : Nat → Value → Prop} {St : Nat → Shared → Prop}
end
section
variable {X : Cx}
end
end L2
namespace TG
open PySem L2
end TG
namespace L2
open PySem PySem.Spec PyProof.Rows
section
variable {M : Model} {A : Around} {E : Value → Shared → Prop} {s : Shared} {B : Heap} {l : List Env} {ea : Addr} {kl a0 fl : Value}
end
section
variable {P : Program} {w : World} {K : W.Frag} {mg : Str → Option Value} {base : Heap} {N : List Str} {qual : Str} {scope : Scope} {f : Addr} {cd : Value} {A : Around} {outer : List Env} {s0 : Shared} {H0 : Hp} {E : XK}
 {pins pins' : List (Addr × Obj)} {σ σ' : St} {H H1 : Hp} {s s1 s' : Shared} {sc : Scope} {x : Str} {caps : List Str} {ix : List Nat}
end
section
variable {X : Cx} {pins : List (Addr × Obj)} {σ : St} {H : Hp} {s : Shared} {sc : Scope} {x : Str} {caps : List Str} {ix : List Nat}
end
section
variable {P : Program} {w : World} {K : W.Frag} {mg : Str → Option Value} {base : Heap} {N : List Str} {qual : Str} {scope : Scope} {f : Addr} {cd : Value} {A : Around} {outer : List Env} {s0 : Shared} {H0 : Hp} {E : XK}
 {sc : Scope} {x : Str} {caps : List Str} {ix : List Nat}
end
section
variable {X : Cx}
end
end L2
namespace TG
open PySem L2
theorem VG {gs : List G} (ok : ∀ g ∈ gs, OkG g) (ha : Asc gs) (nb : Be gs) {x0 y0 : G} (hx0 : x0 ∈ gs) (hy0 : y0 ∈ gs) (l0 : x0.p < y0.p) : ∃ x ∈ gs, ∃ y ∈ gs, x.p < y.p ∧ ∀ g ∈ gs, F9 (x.f * y.p - y.h * x.p) (y.h - x.f) (y.p - x.p) g := by
 let ps : List (Int × Int) := gs.flatMap fun x => (gs.filter fun y => decide (x.p < y.p)).map fun y => (y.h - x.f, y.p - x.p)
 have mem : ∀ {x y : G}, x ∈ gs → y ∈ gs → x.p < y.p → (y.h - x.f, y.p - x.p) ∈ ps := fun {x y} hx hy l =>
  List.mem_flatMap.mpr ⟨x, hx, zf.mpr ⟨y, qE.mpr ⟨hy, z8 l⟩, rfl⟩⟩
 have inv : ∀ z ∈ ps, ∃ x ∈ gs, ∃ y ∈ gs, x.p < y.p ∧ z = (y.h - x.f, y.p - x.p) := fun z hz => by
  obtain ⟨x, hx, h2⟩ := List.mem_flatMap.mp hz
  obtain ⟨y, hy, rfl⟩ := zf.mp h2
  obtain ⟨h3, h4⟩ := qE.mp hy
  exact ⟨x, hx, y, h3, z6 h4, rfl⟩
 obtain ⟨z, hz, hm⟩ := NV ps (fun e => by have := mem hx0 hy0 l0; rw [e] at this; simp at this) (fun z hz => by
  obtain ⟨x, _, y, _, l, rfl⟩ := inv z hz
  show 0 < y.p - x.p
  lia)
 obtain ⟨x, hx, y, hy, l, rfl⟩ := inv z hz
 refine ⟨x, hx, y, hy, l, NL ok hx hy l (fun x' hx' y' hy' l' => hm _ (mem hx' hy' l')) (fun g hg g' hg' e => Nt ha hg hg' e) (fun m hm l1 hb => ?_) (fun m hm l1 hb => ?_)⟩
 ·exact II ha nb hm hx hy l1 l (.inl hb)
 ·exact II ha nb hx hy hm l l1 (.inr hb)
structure XE (gs : List G) (ts : List Thr) : Prop where
 ne : ts ≠ []
 ok : ∀ t ∈ ts, OkT t
 one : ∃ t ∈ ts, ∃ g ∈ gs, t.pas g
 two : ∀ x ∈ gs, ∀ y ∈ gs, x.p < y.p → ∃ t ∈ ts, ∀ g : G, t.pas g ↔ F9 (x.f * y.p - y.h * x.p) (y.h - x.f) (y.p - x.p) g
noncomputable def LX (gs : List G) (t : Thr) : Nat := (gs.filter fun g => decide (t.pas g)).length
theorem Rq {gs : List G} {ts : List Thr} {t : Thr} (T : XE gs ts) (ok : ∀ g ∈ gs, OkG g) (ha : Asc gs) (best : ∀ t' ∈ ts, LX gs t' ≤ LX gs t) (u w m : Int) (hm : 0 < m) (ps : List G) (hs : ps.Sublist gs) (hp : ∀ g ∈ ps, F9 u w m g) : ps.length ≤ LX gs t := by
 match ps, hs, hp with
 | [], _, _ => exact zi _
 | [x], _, _ =>
  obtain ⟨t', ht, g, hg, p⟩ := T.one
  have : 0 < LX gs t' := List.length_pos_iff.mpr fun z => by
   have : g ∈ gs.filter fun g => decide (t'.pas g) := qE.mpr ⟨hg, z8 p⟩
   rw [z] at this
   exact absurd this (by simp)
  exact zT this (best t' ht)
 | x0 :: y0 :: r, hs, hp =>
  generalize hr : x0 :: y0 :: r = ps at *
  have ap : Asc ps := List.Pairwise.sublist hs ha
  have hx0 : x0 ∈ ps := by rw [← hr]; simp
  have hy0 : y0 ∈ ps := by rw [← hr]; simp
  have l0 : x0.p < y0.p := by
   rw [← hr] at ap
   exact (List.pairwise_cons.mp ap).1 y0 (by simp)
  obtain ⟨x, hx, y, hy, l, all⟩ := VG (fun g hg => ok g (hs.subset hg)) ap (SO ap hm hp) hx0 hy0 l0
  obtain ⟨t', ht, hpas⟩ := T.two x (hs.subset hx) y (hs.subset hy) l
  have hf := hs.filter fun g => decide (t'.pas g)
  rw [List.filter_eq_self.mpr fun g hg => z8 ((hpas g).mpr (all g hg))] at hf
  exact zT hf.length_le (best t' ht)
end TG
namespace LM
open PySem PySem.Spec PySem.Calls PyProof.Rows PySem.W L2
noncomputable abbrev IA (x : Str) (p1 p2 p3 p4 p5 : Pos) : Expr := .Call (.Name "len" p1) [.Subscript (.Name x p2) (.Constant (.int 0) 0 p3) p4] [] p5
section
variable {prog : Program} {w : World} {A : Around} {E : Value → Shared → Prop} {s : Shared}
theorem Uw {q t l c' : Addr} {x name qual : Str} {params : Arguments} {scope : Scope} {pm ctv : Value} {p1 p2 p3 p4 p5 : Pos} {mg mb : Str → Option Value} {its lits : Array Value} {Q : Value → Shared → Prop}
  (hq : s.heap.get? q = some (kla_obj name qual params (IA x p1 p2 p3 p4 p5) scope [] pm c' ctv)) (hcd : s.heap.CodeRec (.ref c') qual) (hroom : A.in1.depth < recursionLimit)
  (hbind : ∀ v, bindArgs (kla_fn name qual params (IA x p1 p2 p3 p4 p5) scope [] pm (.ref c') ctv) ⟨[v], []⟩ = pure [(x, v)])
  (hx : scope.names.lookup x = some .local) (hl : scope.names.lookup ("len" : Str) = some .globalImplicit) (hcell : ∀ y ∈ scope.names, y.2 ≠ .cell) (hk : scope.kind = .function) (hco : scope.isCoroutine = false) (hgen : scope.isGenerator = false)
  (hdx : (x == ("__debug__" : Str)) = false)
  (hg : s.heap.Ns mainGlobals mg) (hm : mg "len" = none) (hb : s.heap.Ns builtinsNs mb) (hbb : mb "len" = bootBuiltins "len") (hlim : s.heap.NoLimit)
  (ht : IsTup s.heap t its) (h0 : its[0]? = some (.ref l)) (hsz : its.size ≤ sizeLine) (hls : s.heap.IsList l lits) (hlz : lits.size ≤ sizeLine)
  (h : ∀ h' tk u, (∀ b o, s.heap.get? b = some o → h'.get? b = some o) → Q (.int lits.size u) { s with heap := h', toks := tk }) :
  wpAny (model prog w) A.in1 (call (.ref q) [.ref t]) Q E s := by
 refine wpAny_call ?_
 refine kla_callFunE hroom hq rfl hco hgen rfl hcd ?_
 rw [hbind]
 refine wpAny_pure (wpAny_newFunctionEnv hcell (by intro y hy; rw [zK.mp hy]; exact hx) (fun h₁ hns hsb => ?_) hk)
 have hk₁ : ∀ b o, s.heap.get? b = some o → h₁.get? b = some o := fun b o e => hsb.extBut b o (zX (zH e)) (zB _ e)
 refine ⟨hlim.keeps hk₁, ?_⟩
 refine kla_codeExpr ?_
 refine wpAny_Call_Name_kw (Calls.Name_function_global hk hl (Calls.loadGlobal_builtin (hg.keeps hk₁) hm (hb.keeps hk₁) (hbb.trans rfl) ?_) (by decide))
 refine PyProof.Rows.callWith_builtin1 ?_ rfl rfl
 show wpAny _ _ (spliced ((false, eval (.Subscript (.Name x p2) (.Constant (.int 0) 0 p3) p4) _) :: [])) _ _ _
 refine Calls.spliced_cons ?_
 refine Subscript_ (wpAny_Name (wpAny_loadName_local (v := .ref t) hk hx hns (by simp) ?_) hdx)
 refine wpAny_Constant_int ?_
 have ht' := ht.keeps hk₁
 have hls' : h₁.IsList l lits := by obtain ⟨o, e, r⟩ := hls; exact ⟨o, hk₁ _ _ e, r⟩
 have hn := Nl
 refine subscriptTail_builtinR (x := .ref l) ht'.typeIs slot_tuple_getitem.lookup
  (getItem_tuple (j := 0) ht' (by decide) (by decide) (seqIndex_of (by decide) ?_) h0 ⟨rfl, ?_⟩)
 ·have : 0 < its.size := by
   rcases Nat.eq_zero_or_pos its.size with z | z
   ·rw [Array.getElem?_eq_none (by lia)] at h0; cases h0
   ·exact z
  lia
 refine Calls.spliced_nil ?_
 exact Calls.call_len_list hls' (by lia) (h _ _ _ hk₁)
theorem Wx {L l q c' : Addr} {m : Str → Option Value} {x name qual : Str} {params : Arguments} {scope : Scope} {pm ctv : Value} {p1 p2 p3 p4 p5 : Pos} {mg mb : Str → Option Value} {vs : List Value} {kf : Nat → Nat} {Q : Value → Shared → Prop}
  (hL : s.heap.Ns L m) (hqL : q ≠ L) (hcL : c' ≠ L) (hh : A.handled = none) (hgL : mainGlobals ≠ L) (hbL : builtinsNs ≠ L)
  (hq : s.heap.get? q = some (kla_obj name qual params (IA x p1 p2 p3 p4 p5) scope [] pm c' ctv)) (hcd : s.heap.CodeRec (.ref c') qual) (hroom : A.in1.depth < recursionLimit)
  (hbind : ∀ v, bindArgs (kla_fn name qual params (IA x p1 p2 p3 p4 p5) scope [] pm (.ref c') ctv) ⟨[v], []⟩ = pure [(x, v)])
  (hx : scope.names.lookup x = some .local) (hl : scope.names.lookup ("len" : Str) = some .globalImplicit) (hcell : ∀ y ∈ scope.names, y.2 ≠ .cell) (hk : scope.kind = .function) (hco : scope.isCoroutine = false) (hgen : scope.isGenerator = false)
  (hdx : (x == ("__debug__" : Str)) = false)
  (hg : s.heap.Ns mainGlobals mg) (hm : mg "len" = none) (hb : s.heap.Ns builtinsNs mb) (hbb : mb "len" = bootBuiltins "len") (hlim : ∀ h : Heap, (∀ b o, b ≠ L → s.heap.get? b = some o → h.get? b = some o) → h.NoLimit)
  (hll : s.heap.IsList l vs.toArray) (hlL : l ≠ L) (hne : 0 < vs.length)
  (hvs : ∀ (i : Nat) (v : Value), vs[i]? = some v → ∃ t pl its lits, v = .ref t ∧ t ≠ L ∧ pl ≠ L ∧ IsTup s.heap t its ∧ its[0]? = some (.ref pl) ∧ its.size ≤ sizeLine ∧ s.heap.IsList pl lits ∧ lits.size ≤ sizeLine ∧ lits.size = kf i)
  (h : ∀ i v h' tk', vs[i]? = some v → (∀ j, j < vs.length → kf j ≤ kf i ∧ (j < i → kf j < kf i)) → h'.Ns L m → (∀ b o, b ≠ L → s.heap.get? b = some o → h'.get? b = some o) → Q v { s with heap := h', toks := tk' }) :
  wpAny (model prog w) A (call (.builtin "max") [.ref l] [(Str.ofString "key", .ref q)]) Q E s := by
 obtain ⟨oL, _, _, hoL, _⟩ := id hL
 have hN : News (Att.noObjs s.heap) L s.heap (Att.ledger s.heap L L) := fun ⟨a, o⟩ hp => ⟨(Att.mem_ledger.mp hp).2.2, (Att.mem_ledger.mp hp).1, Att.noObjs_get _ _⟩
 have kOf : ∀ {h : Heap} {own : List (Addr × Obj)}, News (Att.noObjs s.heap) L h (Att.ledger s.heap L L ++ own) → ∀ b o, b ≠ L → s.heap.get? b = some o → h.get? b = some o :=
  fun N b o nb e => (N (b, o) (zz _ (Att.mem_ledger.mpr ⟨nb, nb, e⟩))).1
 have kOf' : ∀ {h : Heap}, News (Att.noObjs s.heap) L h (Att.ledger s.heap L L) → ∀ b o, b ≠ L → s.heap.get? b = some o → h.get? b = some o :=
  fun N b o nb e => (N (b, o) (Att.mem_ledger.mpr ⟨nb, nb, e⟩)).1
 refine kmk_max (fun i => (kf i : Int)) hh (Att.fr_all hL) hN (fun h' F N => ?_) hne (fun i v hv h' tk own F N => ?_) fun i v h' tk' hv hbest F N => ?_
 ·obtain ⟨o, e, r⟩ := hll
  exact ⟨o, kOf' N _ _ hlL e, r⟩
 ·obtain ⟨t, pl, its, lits, rfl, ntL, nplL, ht, h0, hsz, hpl, hlz, hkf⟩ := hvs i v hv
  have k := kOf N
  refine Uw (s := { s with heap := h', toks := tk }) (its := its) (lits := lits) (l := pl) (mg := mg) (mb := mb) (k _ _ hqL hq) ?_ hroom hbind hx hl hcell hk hco hgen hdx ?_ hm ?_ hbb (hlim h' k) ?_ h0 hsz ?_ hlz fun h'' tk2 u k2 => ?_
  ·obtain ⟨c, oc, vs, tq, hc, hoc, r⟩ := hcd
   cases hc
   exact ⟨c', oc, vs, tq, rfl, k _ _ hcL hoc, r⟩
  ·obtain ⟨o, es, ep, e, r⟩ := hg
   exact ⟨o, es, ep, k _ _ hgL e, r⟩
  ·obtain ⟨o, es, ep, e, r⟩ := hb
   exact ⟨o, es, ep, k _ _ hbL e, r⟩
  ·obtain ⟨o, e, r⟩ := ht
   exact ⟨o, k _ _ ntL e, r⟩
  ·obtain ⟨o, e, r⟩ := hpl
   exact ⟨o, k _ _ nplL e, r⟩
  ·rw [hkf]
   refine ⟨h'', tk2, u, rfl, rfl, ⟨F.ns.keeps k2, fun b o e => ?_, F.above⟩, fun p hp => ⟨k2 _ _ (N p hp).1, (N p hp).2⟩⟩
   rw [Att.noObjs_get] at e; cases e
 ·exact h i v h' tk' hv (fun j hj => by have := hbest j hj; exact ⟨by have := this.1; lia, fun z => by have := this.2 z; lia⟩) F.ns (kOf' N)
end
noncomputable def Tbl (H : Hp) (P : Addr) (pos : Pos) (qual : Str) : Prop :=
 H P = some (.tbl #[]) ∨ ∃ c o u vs t, H P = some (.tbl #[rawInt pos.line, rawInt pos.col, .ref c]) ∧ H c = some (.frz o u) ∧ o.data = .fields vs ∧ vs[1]? = some (.str qual t)
theorem Tbl.tab {H : Hp} {P : Addr} {pos : Pos} {qual : Str} (h : Tbl H P pos qual) : ∃ ps, H P = some (.tbl ps) := by
 rcases h with h | ⟨c, _, _, _, _, h, _⟩
 ·exact ⟨_, h⟩
 ·exact ⟨_, h⟩
section
variable {X : Cx} {pins : List (Addr × Obj)} {σ : L2.St} {H : Hp} {s : Shared} {h' : Heap}
theorem VJ {h h' : Heap} {L : Addr} {m m' : Str → Option Value} (a : h.Ns L m) (b : h'.Ns L m) (c : h.Ns L m') : h'.Ns L m' := by
 rw [c.eq_nsMap, ← a.eq_nsMap]; exact b
theorem keptL {t' : Nat} {m : Str → Option Value} (I : Inv X pins σ H s) (hm : s.heap.Ns X.env.locals m) (hm' : h'.Ns X.env.locals m) (k : ∀ b o, b ≠ X.env.locals → s.heap.get? b = some o → h'.get? b = some o) : Inv X pins σ H { s with heap := h', toks := t' } := by
 have nL : ∀ b u, H b = some u → b ≠ X.env.locals := fun b u e z => by rw [z, I.free] at e; cases e
 refine I.step (g' := s.gens) (d' := s.drawn) (ch := []) (fun _ z => nomatch z) (fun b o hb _ _ e _ => k b o hb e) (fun b o hb _ _ e _ => ⟨o.slots, k b o hb e⟩) (fun _ _ _ _ n => n) (fun b o _ e => ?_) (fun _ _ e => e) (fun _ _ _ e => e) (fun b ps e => ⟨#[], by rw [e]; simp⟩) (fun m2 h2 => VJ hm hm' h2) (fun b u e => ?_) I.bare
 ·by_cases hb : b = X.env.locals
  ·obtain ⟨o', _, _, e', _⟩ := hm'
   exact ⟨o', by rw [hb]; exact e'⟩
  ·exact ⟨o, k b o hb e⟩
 ·refine (I.hok b u e).stay (fun c v hc q => k c v ?_ q) (fun _ q => q) fun _ _ q => q
  rcases hc with rfl | hc
  ·exact nL _ _ e
  ·exact nL _ _ hc
theorem Yv {t' : Nat} {m : Str → Option Value} {P c : Addr} {ps : Array Value} {v : Value} {l1 l2 : Value} {oc : Obj} (I : Inv X pins σ H s) (hP : H P = some (.tbl ps)) (hc : s.heap.objs.size ≤ c) (hcL : c ≠ X.env.locals) (hm : s.heap.Ns X.env.locals m) (hm' : h'.Ns X.env.locals m)
  (k : ∀ b o, b ≠ X.env.locals → b ≠ P → s.heap.get? b = some o → h'.get? b = some o) (kP : h'.get? P = some (W.tabObj (ps ++ #[l1, l2, v]))) (kc : h'.get? c = some oc) :
  Inv X pins σ (upd (upd H P (.tbl (ps ++ #[l1, l2, v]))) c (.frz oc (.ext fun _ => True))) { s with heap := h', toks := t' } := by
 have nL : ∀ b u, H b = some u → b ≠ X.env.locals := fun b u e z => by rw [z, I.free] at e; cases e
 have nc : ∀ b u, H b = some u → b ≠ c := fun b u e z => by rw [z, I.hok.fresh hc] at e; cases e
 have nc' : ∀ b o, s.heap.get? b = some o → b ≠ c := fun b o e => zX (zF (zH e) hc)
 have nP : ∀ b, H b = none → b ≠ P := fun b e z => by rw [z, hP] at e; cases e
 have get : ∀ b u, H b = some u → b ≠ P → upd (upd H P (.tbl (ps ++ #[l1, l2, v]))) c (.frz oc (.ext fun _ => True)) b = some u := fun b u e z => by rw [AL (nc b u e), AL z]; exact e
 refine I.step (g' := s.gens) (d' := s.drawn) (ch := []) (fun _ z => nomatch z) (fun b o hb _ _ e n => k b o hb (nP b n) e) (fun b o hb _ _ e n => ⟨o.slots, k b o hb (nP b n) e⟩) (fun b o _ e n => by rw [AL (nc' b o e), AL (nP b n)]; exact n) (fun b o _ e => ?_)
  (fun b xs e => get b _ e fun z => by rw [z, hP] at e; cases e) (fun b o u e => get b _ e fun z => by rw [z, hP] at e; cases e) (fun b qs e => ?_) (fun m2 h2 => VJ hm hm' h2) (fun b u e => ?_) I.bare
 ·by_cases hb : b = X.env.locals
  ·obtain ⟨o', _, _, e', _⟩ := hm'
   exact ⟨o', by rw [hb]; exact e'⟩
  ·by_cases hb2 : b = P
   ·exact ⟨_, by rw [hb2]; exact kP⟩
   ·exact ⟨o, k b o hb hb2 e⟩
 ·by_cases hb : b = P
  ·subst hb
   rw [hP] at e; cases e
   exact ⟨#[l1, l2, v], by rw [AL (nc b _ hP), AN]⟩
  ·exact ⟨#[], by rw [get b _ e hb]; simp⟩
 ·by_cases hb : b = c
  ·subst hb
   rw [AN] at e; cases e
   exact ⟨kc, trivial, ⟨_, kc⟩, fun _ _ _ _ => trivial⟩
  ·rw [AL hb] at e
   by_cases hb2 : b = P
   ·subst hb2
    rw [AN] at e; cases e
    exact kP
   ·rw [AL hb2] at e
    refine (I.hok b u e).stay (fun d w hd q => k d w ?_ ?_ q) (fun d q => get d _ q fun z => by rw [z, hP] at q; cases q) fun d xs q => get d _ q fun z => by rw [z, hP] at q; cases q
    ·rcases hd with rfl | hd
     ·exact nL _ _ e
     ·exact nL _ _ hd
    ·rcases hd with rfl | hd
     ·exact hb2
     ·intro z; rw [z, hP] at hd; cases hd
end
structure Rb (K : W.Frag) (mg : Str → Option Value) (cd : Value) (c P : Addr) : Prop where
 cd : cd = .ref c
 hd : ∀ h, K.In h → W.CodeHd h c P
 bm : ∀ h, K.In h → ∃ bm o, mg "__builtins__" = some (.ref bm) ∧ bm ≠ builtinsNs ∧ bm ≠ mainGlobals ∧ h.get? bm = some o ∧ o.cls = .type "module" ∧ o.dict = some builtinsNs ∧ o.data = .plain
structure LamOk (x : Str) (params : Arguments) (scope : Scope) : Prop where
 df : params.defaults = []
 kd : params.kw_defaults = []
 bind : ∀ name qual body cl pm cdv ct v, bindArgs (kla_fn name qual params body scope cl pm cdv ct) ⟨[v], []⟩ = pure [(x, v)]
 hx : scope.names.lookup x = some .local
 hl : scope.names.lookup ("len" : Str) = some .globalImplicit
 cell : ∀ y ∈ scope.names, y.2 ≠ .cell
 kind : scope.kind = .function
 co : scope.isCoroutine = false
 gen : scope.isGenerator = false
 db : (x == ("__debug__" : Str)) = false
 clos : ∀ env, closureFor scope env = pure []
noncomputable def tMaxK (K : W.Frag) (P : Addr) (lpos : Pos) (qual : Str) (t : TE) : TE := fun σ H Q => t σ H fun v H1 => ∃ (l : Addr) (xs : List V) (kf : Nat → Nat), v = .ref l ∧ SqL K H1 l xs ∧ 0 < xs.length ∧ Tbl H1 P lpos qual ∧
 (∀ i y, xs[i]? = some y → ∃ p pl z ys, y = .ref p ∧ SqT K H1 p (.ref pl :: z) ∧ SqL K H1 pl ys ∧ ys.length = kf i) ∧
 ∀ i y H2, xs[i]? = some y → (∀ j, j < xs.length → kf j ≤ kf i ∧ (j < i → kf j < kf i)) → Tbl H2 P lpos qual → (∀ b u, b ≠ P → H1 b = some u → H2 b = some u) → Q y H2
section
variable {X : Cx}
theorem WG {c P : Addr} {x : Str} {e : Expr} {te : TE} {params : Arguments} {scope : Scope} {p p1 p2 p3 p4 p5 lpos kp pos : Pos} (hg : Gl X "max") (hm : X.mg "max" = none) (hml : X.mg "len" = none) (hr : CF 2 X.A) (LA : Rb X.K X.mg X.env.code c P) (LO : LamOk x params scope) (hpe : PE X e te)
  (hse : starEach [e] X.env = (false, eval e X.env) :: starEach [] X.env := by rfl) :
  PE X (.Call (.Name "max" p) [e] [⟨some "key", .Lambda params (IA x p1 p2 p3 p4 p5) scope lpos, kp⟩] pos) (tMaxK X.K P lpos (X.env.qual ++ "<lambda>") te) := by
 intro pins s σ H Q I h
 refine wpAny_Call_Name_kw (Jj I hg hm (u := .builtin "max") rfl ?_)
 refine callWith_kw ?_ (by rw [hse]; rfl) (by rw [hse]; rfl) rfl rfl
 rw [hse]
 show wpAny _ _ (spliced ((false, eval e X.env) :: [])) _ _ s
 refine Calls.spliced_cons (thn (hpe pins s σ H _ I h) fun u s1 ⟨v, H1, I1, r1, q1⟩ => Calls.spliced_nil ?_)
 obtain ⟨l, xs, kf, rfl, hl, h0, tb, hxs, k⟩ := q1
 cases r1
 refine kws_cons (kla_eval (by rw [defaultsOf_eq, LO.df, LO.kd]; rfl) ?_)
 obtain ⟨its, ri, pl, hz⟩ := I1.list hl
 obtain ⟨m, hn, hlook⟩ := id I1.loc
 obtain ⟨mb, hb1, hb2⟩ := I1.mod.blt
 have hG := I1.mod.glob.keeps I1.bk
 have hB := hb1.keeps I1.bk
 obtain ⟨ps, hP⟩ := tb.tab
 have gP : s1.heap.get? P = some (W.tabObj ps) := I1.hok P _ hP
 have nLP : X.env.locals ≠ P := fun z => by have := I1.free; rw [z, hP] at this; cases this
 have bP : ∀ b o, X.base.get? b = some o → b ≠ P := fun b o e z => by have := (I1.bs b o e).2; rw [z, hP] at this; cases this
 have bL : ∀ b o, X.base.get? b = some o → b ≠ X.env.locals := fun b o e => zX (zF (zH e) (zT I1.ok.bsz I1.ok.above))
 have gM : ∃ o, X.base.get? mainGlobals = some o := let ⟨o, _, _, e, _⟩ := I1.mod.glob; ⟨o, e⟩
 have gB : ∃ o, X.base.get? builtinsNs = some o := let ⟨o, _, _, e, _⟩ := hb1; ⟨o, e⟩
 have lstN : ∀ a its, s1.heap.IsList a its → a ≠ P ∧ a ≠ X.env.locals := fun a its ⟨o, e, c1, n, d1⟩ => by
  refine ⟨fun z => ?_, fun z => ?_⟩
  ·rw [z, gP] at e; cases e; cases c1
  ·obtain ⟨o', _, _, e', d', _⟩ := id hn
   rw [z, e'] at e; cases e; rw [d'] at d1; cases d1
 have tupN : ∀ a its, IsTup s1.heap a its → a ≠ P ∧ a ≠ X.env.locals := fun a its ⟨o, e, c1, n, d1⟩ => by
  refine ⟨fun z => ?_, fun z => ?_⟩
  ·rw [z, gP] at e; cases e; cases c1
  ·obtain ⟨o', _, _, e', d', _⟩ := id hn
   rw [z, e'] at e; cases e; rw [d'] at d1; cases d1
 have run : ∀ (h2 : Heap) (tk : Nat) (q c' : Addr) (ctv : Value), (∀ b o, b ≠ P → s1.heap.get? b = some o → h2.get? b = some o) → q ≠ X.env.locals → c' ≠ X.env.locals →
   h2.get? q = some (kla_obj "<lambda>" (X.env.qual ++ "<lambda>") params (IA x p1 p2 p3 p4 p5) scope [] ((X.mg "__name__").getD .none) c' ctv) → h2.CodeRec (.ref c') (X.env.qual ++ "<lambda>") →
   (∀ (h3 : Heap) (tk3 : Nat), h3.Ns X.env.locals m → (∀ b o, b ≠ X.env.locals → h2.get? b = some o → h3.get? b = some o) → ∃ H2, Inv X pins σ H2 { s1 with heap := h3, toks := tk3 } ∧ Tbl H2 P lpos (X.env.qual ++ "<lambda>") ∧ ∀ b u, b ≠ P → H1 b = some u → H2 b = some u) →
   wpAny (model X.prog X.w) X.A (call (.builtin "max") [.ref l] [(Str.ofString "key", .ref q)]) (EP X pins σ Q) X.xe { s1 with heap := h2, toks := tk } := by
  intro h2 tk q c' ctv k2 hqL hcL hq hcd fin
  have ll := lstN l _ pl.isList
  refine Wx (s := { s1 with heap := h2, toks := tk }) (L := X.env.locals) (m := m) (mg := X.mg) (mb := mb) (vs := its) (kf := kf) ?_ hqL hcL hr.hd ?_ ?_ hq hcd ?_ (fun v => LO.bind _ _ _ _ _ _ _ v) LO.hx LO.hl LO.cell LO.kind LO.co LO.gen LO.db ?_ hml ?_ (hb2 _ (by decide)) (fun h3 k3 => ?_) ?_ ll.2 ?_ (fun i v hv => ?_) fun i v h3 tk3 hv best hns k3 => ?_
  ·obtain ⟨o, es, ep, e, r⟩ := hn
   exact ⟨o, es, ep, k2 _ _ nLP e, r⟩
  ·obtain ⟨o, e⟩ := gM
   exact bL _ _ e
  ·obtain ⟨o, e⟩ := gB
   exact bL _ _ e
  ·have := hr.dp
   show X.A.depth < _
   lia
  ·exact I1.mod.glob.keeps fun b o e => k2 b o (bP b o e) (I1.bk b o e)
  ·exact hb1.keeps fun b o e => k2 b o (bP b o e) (I1.bk b o e)
  ·exact I1.mod.nolimit.keeps fun b o e => k3 b o (bL b o e) (k2 b o (bP b o e) (I1.bk b o e))
  ·obtain ⟨o, e, r⟩ := pl.isList
   exact ⟨o, k2 _ _ ll.1 e, r⟩
  ·rw [← ri.length]; exact h0
  ·have hi := (zA.mp hv).1
   have hi' : i < xs.length := by rw [ri.length]; exact hi
   obtain ⟨v', ev', rv'⟩ := ri.get (z4 hi')
   rw [hv] at ev'; cases ev'
   obtain ⟨pp, pa, z, ys, ey, hT, hLs, hlen⟩ := hxs i _ (z4 hi')
   rw [ey] at rv'
   cases rv'
   obtain ⟨it2, r2, pt, hz2⟩ := I1.tuple hT
   obtain ⟨it3, r3, pl3, hz3⟩ := I1.list hLs
   obtain ⟨w0, ew0, rw0⟩ := r2.get (i := 0) (x := .ref pa) rfl
   cases rw0
   have t1 := tupN _ _ pt
   have t2 := lstN _ _ pl3.isList
   refine ⟨pp, pa, it2.toArray, it3.toArray, rfl, t1.2, t2.2, ?_, by simpa using ew0, ?_, ?_, ?_, ?_⟩
   ·obtain ⟨o, e, r⟩ := pt
    exact ⟨o, k2 _ _ t1.1 e, r⟩
   ·rw [zQ, ← r2.length]; exact hz2
   ·obtain ⟨o, e, r⟩ := pl3.isList
    exact ⟨o, k2 _ _ t2.1 e, r⟩
   ·rw [zQ, ← r3.length]; exact hz3
   ·rw [zQ, ← r3.length]; exact hlen
  ·have hi := (zA.mp hv).1
   have hi' : i < xs.length := by rw [ri.length]; exact hi
   obtain ⟨v', ev', rv'⟩ := ri.get (z4 hi')
   rw [hv] at ev'; cases ev'
   obtain ⟨H2, I2, tb2, s2⟩ := fin h3 tk3 hns k3
   exact ⟨_, H2, I2, rv', k i _ H2 (z4 hi') (fun j hj => best j (by rw [← ri.length]; exact hj)) tb2 s2⟩
 obtain ⟨bm, ob, b1, b2, b3, b4, b5⟩ := LA.bm _ I1.mod.kin
 have hBA : s1.heap.BuiltinsAt X.mg P := ⟨bm, ob, b1, b2, b3, bP _ _ b4, I1.bk _ _ b4, b5⟩
 have hCH : W.CodeHd s1.heap c P := LA.hd _ I1.kIn
 have hgP : mainGlobals ≠ P := let ⟨_, e⟩ := gM; bP _ _ e
 have lL : X.env.locals < s1.heap.objs.size := I1.lt
 rcases id tb with tb0 | ⟨c0, o0, u0, vs0, t0, e1, e2, e3, e4⟩
 ·-- the first call
  rw [hP] at tb0; cases tb0
  refine kla_makeFunction (LO.clos _) I1.ok.glob hG LA.cd hCH gP trivial rfl hgP hBA fun c' ctv h' tk hx hge hlt hrec htb => ?_
  refine kws_nil ?_
  obtain ⟨c2, oc, vs2, t2, ec, goc, hd2, hv2⟩ := id hrec
  cases ec
  have ncP : c' ≠ P := zt (zF (zH gP) hge)
  refine run _ _ _ c' ctv (fun b o n e => zB _ (hx b o n e)) ?_ (zt (zF lL hge)) (zY _ rfl) ⟨c', oc, vs2, t2, rfl, zB _ goc, hd2, hv2⟩ fun h3 tk3 ns3 k3 => ?_
  ·exact zt (Nat.lt_trans (zF lL hge) hlt)
  ·refine ⟨_, Yv (c := c') (oc := oc) I1 hP hge (zt (zF lL hge)) hn ns3 (fun b o n1 n2 e => k3 b o n1 (zB _ (hx b o n2 e))) (k3 _ _ (Ne.symm nLP) (zB _ htb)) (k3 _ _ (zt (zF lL hge)) (zB _ goc)), .inr ⟨c', oc, _, vs2, t2, ?_, AN, hd2, hv2⟩, fun b u n e => ?_⟩
   ·rw [AL (Ne.symm ncP), AN]; rfl
   ·rw [AL (fun z => by rw [z, I1.hok.fresh hge] at e; cases e), AL n]; exact e
 ·-- a later call
  rw [hP] at e1; cases e1
  obtain ⟨g0, _⟩ := I1.hok c0 _ e2
  have n0L : c0 ≠ X.env.locals := fun z => by have := I1.free; rw [← z, e2] at this; cases this
  refine kla_makeFunctionHit (cv := .ref c0) (LO.clos _) I1.ok.glob hG LA.cd hCH gP ?_ ?_ hBA fun ctv h' tk hx hsz => ?_
  ·exact TriplesOk_snoc _ _ _ [] trivial
  ·exact codeAmong_snoc [] trivial rfl
  refine kws_nil ?_
  refine run _ _ _ c0 ctv (fun b o _ e => zB _ (hx b o e)) (zt (zF lL hsz)) n0L (zY _ rfl) ⟨c0, o0, vs0, t0, rfl, zB _ (hx _ _ g0), e3, e4⟩ fun h3 tk3 ns3 k3 => ?_
  exact ⟨H1, keptL I1 hn ns3 fun b o n e => k3 b o n (zB _ (hx b o e)), tb, fun _ _ _ e => e⟩
end
noncomputable def Ue (T : Addr) (H : Hp) : Prop := H T = some (.tbl #[]) ∧ ∀ b, H b = none ∨ (∃ o xs, H b = some (.frz o (.lst xs))) ∨ b = T
theorem UR {T : Addr} {P : Program} {w : World} {K : W.Frag} {mg mb : Str → Option Value} {CX : CXT} {k : Nat} {fa a : Addr} {fd : FuncData} {x : Str} {sp : Sp} {s₁ : Shared} {vs : List Value} {ns : List Int}
  (KX : K.In s₁.heap) (hT : s₁.heap.get? T = some (W.tabObj #[])) (isT : isCodeTable s₁.heap T) (hKT : K.lookup T = none) (hns : s₁.heap.Ns mainGlobals mg) (hb : s₁.heap.Ns builtinsNs mb) (hbb : ∀ x : Str, x ≠ "__name__" → mb x = bootBuiltins x) (hlim : s₁.heap.NoLimit) (hg : s₁.gens = #[])
  (ha : s₁.heap.get? a = some { cls := .type "list", data := .seq vs.toArray }) (hi : IntsAre vs ns) (hl : ns.length ≤ sizeLine) (hr : CF k callerA)
  (F : ∀ base : Heap, K.In base → base.Ns mainGlobals mg → Af P w K mg base CX k fa fd [x] sp) (hbind : ∀ (s : Shared) (u : Value), BindsTo s fd ⟨[u], []⟩ [(x, u)])
  (hsp : ∀ H : Hp, Ue T H → SqL K H a (ns.map V.int) → sp [.ref a] H (fun v _ => v = .bl true) fun _ _ _ => False)
  (hCX : ∀ H e s', CX [] H s₁ (fun _ _ _ => False) e s' → False) :
  codeAny (model P w) callerA (.call (.ref fa) ⟨[.ref a], []⟩) (fun r s' => r = .ok (.ret (.bool true)) ∧ OldK s₁.heap s'.heap ∧ s'.os = s₁.os ∧ AllBare s'.gens) s₁ := by
 have rv := O2 hi
 have lenV := hi.length
 have core : ∀ H : Hp, Ue T H → SqL K H a (ns.map V.int) → HOk P w H s₁.heap → (∀ b, H b ≠ none → b = a ∨ b = T) → (H a ≠ none → K.lookup a = none) →
   codeAny (model P w) callerA (.call (.ref fa) ⟨[.ref a], []⟩) (fun r s' => r = .ok (.ret (.bool true)) ∧ OldK s₁.heap s'.heap ∧ s'.os = s₁.os ∧ AllBare s'.gens) s₁ := by
  intro H hO hS hok hA hK
  have base_of : ∀ {b : Addr} {o : Obj}, s₁.heap.get? b = some o → H b = none → (QX s₁.heap H).get? b = some o := fun e n => Vo e n
  have noA : ∀ {b : Addr} {o : Obj} {es : Array DictEntry} {ep : Nat}, s₁.heap.get? b = some o → o.data = .dict es ep → H b = none := fun {b o es ep} e d => by
   cases q : H b with
   | none => rfl
   | some u =>
    rcases hA b (by rw [q]; simp) with e' | e'
    ·subst e'
     rw [ha] at e; cases e
     have d' : Data.seq vs.toArray _ = Data.dict es ep := d
     cases d'
    ·subst e'
     rw [hT] at e; cases e
     have d' : Data.fields _ = Data.dict es ep := d
     cases d'
  have nsK : ∀ {b : Addr} {m : Str → Option Value}, s₁.heap.Ns b m → (QX s₁.heap H).Ns b m := fun {b m} ⟨o, es, ep, e, d, r⟩ => ⟨o, es, ep, base_of e (noA e d), d, r⟩
  have hKb : K.In (QX s₁.heap H) := fun b o e => base_of (KX b o e) (by
   cases q : H b with
   | none => rfl
   | some u =>
    rcases hA b (by rw [q]; simp) with e' | e'
    ·subst e'
     rw [hK (by rw [q]; simp)] at e; cases e
    ·subst e'
     rw [hKT] at e; cases e)
  have hM : Mod K mg (QX s₁.heap H) := ⟨hKb, nsK hns, ⟨mb, nsK hb, hbb⟩, let ⟨mc, h1, h2⟩ := hlim; ⟨mc, nsK h1, h2⟩⟩
  have e0 : SJ P w K mg (QX s₁.heap H) callerA [] s₁ H := ⟨rfl, hM, fun b o e => Wn e, Nat.le_of_eq (T5 _ _), trivial, fun b hb => absurd (show b ∈ ([] : List Addr) from hb) (by simp), hok, .of_eq hg⟩
  refine codeAny_mono ((F _ hKb (nsK hns)).run callerA [] s₁ H ⟨[.ref a], []⟩ [.ref a] [.ref a] _ _ hr e0 (hbind s₁ (.ref a)) (.cons rfl .nil) (hsp H hO hS)) fun r s' h => ?_
  cases r with
  | error e => exact (hCX H e s' h).elim
  | ok fl =>
   cases fl with
   | next => exact False.elim h
   | brk => exact False.elim h
   | cont => exact False.elim h
   | ret u =>
    obtain ⟨v, H', os, bare, un, hok', r', q⟩ := h
    have q' : v = .bl true := q
    subst q'
    obtain rfl : u = Value.bool true := r'
    refine ⟨rfl, ⟨fun b o e => ?_, fun b o e => un.there b o e (by simp)⟩, os, bare⟩
    cases q : H b with
    | none => exact .inl (un.keep b o e q (by intro z; exact absurd (show b ∈ ([] : List Addr) from z) (by simp)) (by simp))
    | some u =>
     rcases hO.2 b with z | ⟨ob, xs, z⟩ | z
     ·rw [q] at z; cases z
     ·have z2 := un.frzs b ob _ z
      obtain ⟨e1, _⟩ := hok b _ z
      obtain ⟨e2, _⟩ := hok' b _ z2
      rw [e] at e1; cases e1
      exact .inl e2
     ·subst z
      obtain ⟨more, z2⟩ := un.tbls b _ hO.1
      have e2 : s'.heap.get? b = some { cls := .none, data := .fields (#[] ++ more) } := hok' b _ z2
      rw [hT] at e; cases e
      exact .inr (.inl ⟨isT, rfl, #[], more, rfl, e2⟩)
 have naT : a ≠ T := fun z => by rw [z, hT] at ha; cases ha
 cases hk : K.lookup a with
 | some o =>
  have e := KX a o hk
  rw [ha] at e
  cases e
  refine core (fun b => if b = T then some (.tbl #[]) else none) ⟨if_pos rfl, fun b => ?_⟩ (.inr ⟨_, vs.toArray, _, hk, rfl, rfl, rfl, by rw [zQ, lenV]; exact hl, by simpa using rv⟩) (fun b u z => ?_) (fun b z => ?_) fun z => absurd (if_neg naT) z
  ·by_cases hb : b = T
   ·exact .inr (.inr hb)
   ·exact .inl (if_neg hb)
  ·by_cases hb : b = T
   ·have z' := (if_pos hb).symm.trans z
    cases z'
    subst hb
    exact hT
   ·have z' := (if_neg hb).symm.trans z
    cases z'
  ·by_cases hb : b = T
   ·exact .inr hb
   ·exact absurd (if_neg hb) z
 | none =>
  refine core (fun b => if b = T then some (.tbl #[]) else if b = a then some (.frz { cls := .type "list", data := .seq vs.toArray } (.lst (ns.map V.int))) else none) ⟨if_pos rfl, fun b => ?_⟩ (.inl (.inr ⟨{ cls := .type "list", data := .seq vs.toArray }, (if_neg naT).trans (if_pos rfl)⟩)) (fun b u z => ?_) (fun b z => ?_) fun _ => hk
  ·by_cases hb : b = T
   ·exact .inr (.inr hb)
   ·by_cases hb2 : b = a
    ·exact .inr (.inl ⟨_, _, (if_neg hb).trans (if_pos hb2)⟩)
    ·exact .inl ((if_neg hb).trans (if_neg hb2))
  ·by_cases hb : b = T
   ·have z' := (if_pos hb).symm.trans z
    cases z'
    subst hb
    exact hT
   ·by_cases hb2 : b = a
    ·have z' := ((if_neg hb).trans (if_pos hb2)).symm.trans z
     cases z'
     subst hb2
     exact ⟨ha, by rw [z5]; exact hl, vs, _, rv, ha⟩
    ·have z' := ((if_neg hb).trans (if_neg hb2)).symm.trans z
     cases z'
  ·by_cases hb : b = T
   ·exact .inr hb
   ·by_cases hb2 : b = a
    ·exact .inl hb2
    ·exact absurd ((if_neg hb).trans (if_neg hb2)) z
theorem Fun.okL {P : Program} {w : World} {K : W.Frag} {mg : Str → Option Value} {base : Heap} {x qual : Str} {st : Stmt} {f c T : Addr} {fd : FuncData} {N ps : List Str} {k : Nat} {sp : Sp} (F : Fun K x qual st f fd) (L : Rb K mg fd.code c T) (S : AR N ps (AG st)) (len : ∀ vs H Q E, sp vs H Q E → vs.length = ps.length)
  (hbody : ∀ (cdv : Value) (A : Around) (outer : List Env) (s : Shared) (H : Hp) (vs : List V) (Q : VK) (E : XK), Rb K mg cdv c T → CF k (A.deeper (envOfC qual (AG st) s.heap.objs.size f cdv)) → sp vs H Q E →
   ∃ t, PSs (FM CX0 P w K mg base N qual (AG st) f cdv A outer s H E).nox (BH st) t ∧ t { nx := fun _ H' => Q .non H', rt := Q } (start N vs) H) : Af P w K mg base CX0 (k + 1) f fd ps sp := by
 obtain ⟨oc, od, kV, doc, pm, an, cdv, ct, osl, rfl, lk, hcd⟩ := F.ex
 refine Sq lk hcd S len fun A outer s H vs Q E hr hsp => ?_
 obtain ⟨t, h, q⟩ := hbody cdv A outer s H vs Q E L hr hsp
 exact ⟨t, h.nox, q⟩
noncomputable def G4 : Option Obj → Bool
 | some ⟨.none, none, .fields vs, sl⟩ => Nat.beq vs.size 0 && Nat.beq sl.size 0
 | _ => false
theorem U3 {o : Option Obj} (h : G4 o = true) : o = some (W.tabObj #[]) := by
 unfold G4 at h
 split at h
 ·rename_i vs sl
  obtain ⟨h1, h2⟩ := q9.mp h
  have e1 : vs = #[] := Array.eq_empty_of_size_eq_zero (Nat.eq_of_beq_eq_true h1)
  have e2 : sl = #[] := Array.eq_empty_of_size_eq_zero (Nat.eq_of_beq_eq_true h2)
  rw [e1, e2]
 ·cases h
noncomputable def hdOk (vs : Array Value) (T : Addr) : Bool := match (vs[11]? : Option Value), vs.getD 18 .none, vs.getD 7 .none, vs.getD 9 .none, vs.getD 10 .none with
 | some (.ref P), .str _ _, .int _ _, .bool _, .int _ _ => Nat.beq P T
 | _, _, _, _, _ => false
noncomputable def Vn (K : W.Frag) (c T : Addr) : Bool := match K.lookup c with
 | some ⟨.type t, _, .fields vs, _⟩ => t == "code" && (hdOk vs T && !(Nat.beq c T))
 | _ => false
theorem Qh {K : W.Frag} {c T : Addr} (h : Vn K c T = true) (h' : Heap) (X : K.In h') : W.CodeHd h' c T ∧ isCodeTable h' T := by
 unfold Vn at h
 split at h
 ·rename_i t dd vs sl e
  obtain ⟨h1, h2⟩ := q9.mp h
  obtain ⟨h3, h4⟩ := q9.mp h2
  obtain rfl : t = "code" := beq_iff_eq.mp h1
  unfold hdOk at h3
  split at h3
  ·rename_i P file tf flags tg inF text tt e11 e18 e7 e9 e10
   obtain rfl : P = T := Nat.eq_of_beq_eq_true h3
   refine ⟨⟨_, vs, file, tf, flags, tg, inF, text, tt, X _ _ e, rfl, rfl, e11, ?_, e18, e7, e9, e10, ?_⟩, ⟨c, _, vs, X _ _ e, rfl, rfl, e11⟩⟩
   ·rw [zd, e11]; rfl
   ·intro z
    rw [z, Nat.beq_refl] at h4
    cases h4
  ·cases h3
 ·cases h
noncomputable def bA (K : W.Frag) : Bool := match W.nsIn K mainGlobals "__builtins__" with
 | some (some (.ref bm)) => !(Nat.beq bm builtinsNs) && (!(Nat.beq bm mainGlobals) && (match K.lookup bm with
  | some ⟨.type t, some d, .plain, _⟩ => t == "module" && Nat.beq d builtinsNs
  | _ => false))
 | _ => false
theorem Wq {K : W.Frag} {h : Heap} {mg : Str → Option Value} (X : K.In h) (G : h.Ns mainGlobals mg) (e : bA K = true) (h' : Heap) (X' : K.In h') :
  ∃ bm o, mg "__builtins__" = some (.ref bm) ∧ bm ≠ builtinsNs ∧ bm ≠ mainGlobals ∧ h'.get? bm = some o ∧ o.cls = .type "module" ∧ o.dict = some builtinsNs ∧ o.data = .plain := by
 unfold bA at e
 split at e
 ·rename_i bm eb
  obtain ⟨h1, h2⟩ := q9.mp e
  obtain ⟨h3, h4⟩ := q9.mp h2
  split at h4
  ·rename_i t d sl el
   obtain ⟨h5, h6⟩ := q9.mp h4
   obtain rfl : t = "module" := beq_iff_eq.mp h5
   obtain rfl : d = builtinsNs := Nat.eq_of_beq_eq_true h6
   refine ⟨bm, _, W.mg_of X G eb, ?_, ?_, X' _ _ el, rfl, rfl, rfl⟩
   ·intro z; rw [z, Nat.beq_refl] at h1; cases h1
   ·intro z; rw [z, Nat.beq_refl] at h3; cases h3
  ·cases h4
 ·cases e
noncomputable def aP (K : W.Frag) (x : Str) (T : Addr) : Bool := match W.nsIn K mainGlobals x with
 | some (some (.ref f)) => match K.lookup f with
  | some ⟨_, _, .func fd, _⟩ => match fd.code with
   | .ref c => Vn K c T && bA K
   | _ => false
  | _ => false
 | _ => false
theorem WY {K : W.Frag} {h : Heap} {mg : Str → Option Value} {x : Str} {st : Stmt} {T f : Addr} {fd : FuncData} {ps : List Str} (X : K.In h) (G : h.Ns mainGlobals mg) (D : L2.D K mg x st ps f fd) (e : aP K x T = true) : ∃ c, Rb K mg fd.code c T ∧ ∀ h', K.In h' → isCodeTable h' T := by
 unfold aP at e
 split at e
 ·rename_i f' ef
  have e1 := W.mg_of X G ef
  rw [D.m] at e1; cases e1
  obtain ⟨oc, od, kV, doc, pm, an, cdv, ct, osl, rfl, lk, hcd⟩ := D.F.ex
  rw [lk] at e
  dsimp only at e
  cases cdv with
  | ref c =>
   obtain ⟨h1, h2⟩ := q9.mp e
   exact ⟨c, ⟨rfl, fun h' X' => (Qh h1 h' X').1, fun h' X' => Wq X G h2 h' X'⟩, fun h' X' => (Qh h1 h' X').2⟩
  | _ => cases e
 ·cases e
theorem Vc {as : List Addr} {h : Heap} {T : Addr} (n : T ∉ as) : (TG.Kof as h).lookup T = none := by
 induction as with
 | nil => rfl
 | cons b r ih =>
  simp only [TG.Kof, qD]
  have nb : T ≠ b := fun z => n (by rw [z]; exact zR)
  cases hb : h.get? b with
  | none => exact ih fun z => n (zD _ z)
  | some ob =>
   simp only [qM, List.lookup, beq_eq_false_iff_ne.mpr nb]
   exact ih fun z => n (zD _ z)
noncomputable def J9 {β : Type} (T : Addr) (as : List Addr) (obs : W.Frag → β) (v : β) (_ : World) (h : Heap) : Prop := ∃ K : W.Frag, K.In h ∧ K.lookup T = none ∧ h.get? T = some (W.tabObj #[]) ∧ obs K = v
theorem J9.of {β : Type} {T : Addr} {as : List Addr} {obs : W.Frag → β} {v : β} (n : T ∉ as) (w : World) (s : Shared) (e : (G4 (s.heap.get? T), obs (TG.Kof as s.heap)) = (true, v)) : J9 T as obs v w s.heap :=
 ⟨_, TG.Zp _ _, Vc n, U3 (zv e).1, (zv e).2⟩
theorem J9.keeps {β : Type} {T : Addr} {as : List Addr} {obs : W.Frag → β} {v : β} (w : World) (h h' : Heap) (x : J9 T as obs v w h) (k : ∀ b o, h.get? b = some o → h'.get? b = some o) : J9 T as obs v w h' := x.imp fun _ z => ⟨z.1.keeps k, z.2.1, k _ _ z.2.2.1, z.2.2.2⟩
theorem Um {β : Type} {T : Addr} {as : List Addr} {obs : W.Frag → β} (s : SharedT) : (G4 (s.abs.heap.get? T), obs (TG.Kof as s.abs.heap)) = (G4 (TG.SS s.tree s.n T), obs (TG.T8 as s)) := by
 rw [TG.WJ]
 show (G4 ((absHeap s.tree s.n s.life).get? T), _) = _
 rw [TG.S7]
theorem Us {l : W.OpenLaw} {n k : Nat} {q : Program} {loose : List Str} {XP : (Str → Option Value) → Heap → Prop} {β : Type} {T : Addr} {as : List Addr} {obs : W.Frag → β} {v : β} {d : DefRec} {CX : CXT} {sp : W.Frag → Sp} {x : Str}
  (hn : l.most = some n) (hn2 : n ≤ sizeLine) (hdf : d.params.defaults = []) (hr : CF k callerA)
  (F : ∀ (w : World) (mg : Str → Option Value) (fa : Addr) (h : Heap) (K : W.Frag), obs K = v → K.In h → h.Ns mainGlobals mg → mg d.name = some (.ref fa) →
   ∃ fd : FuncData, (∀ (s : Shared) (u : Value), BindsTo s fd ⟨[u], []⟩ [(x, u)]) ∧ (∀ h', K.In h' → isCodeTable h' T) ∧
    ∀ base : Heap, K.In base → base.Ns mainGlobals mg → Af l.prog w K mg base CX k fa fd [x] (sp K))
  (hsp : ∀ (K : W.Frag) (H : Hp) (a : Addr) (ns : List Int), ns.length ≤ n → Ue T H → SqL K H a (ns.map V.int) → sp K [.ref a] H (fun v _ => v = .bl true) fun _ _ _ => False)
  (hCX : ∀ (H : Hp) (s : Shared) (e : Value) (s' : Shared), CX [] H s (fun _ _ _ => False) e s' → False) :
  W.WalkO q loose XP (J9 T as obs v) l.row.toRowW d [] (fun f vs => PySem.call f vs) := by
 refine Att.attach_call hn hdf fun w s₀ s₁ mg mb fa o pm cd doc a vs ns G Y ho hd hcd hmg hobj hints hlen hg => ?_
 obtain ⟨K, KX, KT, hT, KO⟩ := Y
 obtain ⟨fd, hb, isT, hF⟩ := F w mg fa _ K KO KX G.T.g hmg
 exact UR KX hT (isT _ KX) KT G.T.g G.T.b G.T.builtins G.T.nolimit hg hobj hints (zT hlen hn2) hr hF hb (fun H hO hS => hsp K H a ns hlen hO hS) fun H e s' => hCX H s₁ e s'
end LM
namespace TG
open PySem L2
theorem Paired.at {α β : Type} {F : α → β → Prop} : ∀ {l : List α} {r : List β} {i : Nat} {x : α}, Paired F l r → l[i]? = some x → ∃ y, r[i]? = some y ∧ F x y
 | _, _, i, x, .nil, h => by simp at h
 | _, _, 0, x, .cons h1 _, h => by simp at h; subst h; exact ⟨_, rfl, h1⟩
 | _, _, i + 1, x, .cons _ t, h => by
  obtain ⟨y, h2, h3⟩ := Paired.at (i := i) (x := x) t (by simpa using h)
  exact ⟨y, by simpa using h2, h3⟩
theorem Tq {β : Type} {K : W.Frag} {a : Addr} {as : List Addr} {bs : List β} {te : TE} {caps : St} {D : Addr} {H1 : Hp} {Q : Hp → Prop} (E : Hp → Addr → β → Prop) (es : ∀ H H' v b, AI H H' → E H v b → E H' v b)
  (F : Hp → V → Addr → β → Prop) (fs : ∀ H H' v q b, AI H H' → F H v q b → F H' v q b) (fd : ∀ H v q b xs ys, H D = some (.lst xs) → H1 D = none → F H v q b → F (L2.upd H D (.lst ys)) v q b)
  (hl : SqL K H1 a (as.map V.ref)) (pr0 : Paired (E H1) as bs) (hD : H1 D = none) (hz : as.length ≤ 1000)
  (he : ∀ q b H (R : VK), b ∈ bs → AI H1 H → (H D ≠ none) → E H q b → (∀ y H', AI H H' → F H' y q b → R y H') → te (some (.ref q) :: caps) H R)
  (hd : ∀ H ys, AI H1 H → H D = some (.lst ys) → ys.length = as.length → (∀ (i : Nat) (y : V), ys[i]? = some y → ∃ q b, as[i]? = some q ∧ bs[i]? = some b ∧ F H y q b) → Q H) : FH te En caps (Itl K a) D H1 Q := by
 refine Ot (xs := as.map V.ref) (fun i ys H => AI H1 H ∧ H D = some (.lst ys) ∧ ∀ (j : Nat) (y : V), ys[j]? = some y → ∃ q b, as[j]? = some q ∧ bs[j]? = some b ∧ F H y q b) ⟨Aw hD, AN, fun j y z => by simp at z⟩ (fun _ _ H _ ⟨s1, _⟩ => s1.seq hl) ?_ ?_
 ·rintro i x ys H hx hy ⟨s1, e1, pr⟩
  have hi : i < as.length := by
   have := (zA.mp hx).1
   rwa [z5] at this
  have hq := z4 hi
  obtain ⟨b, hb, eb⟩ := Paired.at pr0 hq
  have ex : x = V.ref as[i] := by
   rw [zJ, hq] at hx
   exact (zN hx).symm
  subst ex
  refine he as[i] b H _ (zU hb) s1 (by rw [e1]; simp) (es _ _ _ _ s1 eb) fun y H' s2 fy => ?_
  refine Nu.of (by rw [z5, PySem.sizeLine_eq]; lia) (by rw [z5]; exact hi) hy (s2.get e1) ⟨(s1.trans s2).updFresh hD, AN, fun j z hz' => ?_⟩
  by_cases hj : j < ys.length
  ·rw [qF hj] at hz'
   obtain ⟨q, b', h1, h2, h3⟩ := pr j z hz'
   exact ⟨q, b', h1, h2, fd _ _ _ _ _ _ (s2.get e1) hD (fs _ _ _ _ _ s2 h3)⟩
  ·have hj2 : j = ys.length := by
    have := (zA.mp hz').1
    rw [zC] at this
    simp at this
    lia
   subst hj2
   rw [zg (zG _), Nat.sub_self] at hz'
   cases hz'
   rw [hy]
   exact ⟨_, b, hq, hb, fd _ _ _ _ _ _ (s2.get e1) hD fy⟩
 ·rintro ys H hy ⟨s1, e1, pr⟩
  exact hd H ys s1 e1 (by rw [hy, z5]) pr
theorem BV {H H' : Hp} {P : Addr} {pos : Pos} {qual : Str} (h : LM.Tbl H P pos qual) (s : AI H H') : LM.Tbl H' P pos qual := by
 rcases h with h | ⟨c, o, u, vs, t, h1, h2, h3⟩
 ·exact .inl (s.get h)
 ·exact .inr ⟨c, o, u, vs, t, s.get h1, s.get h2, h3⟩
noncomputable def A1 (T : Addr) (H H' : Hp) : Prop := ∀ b u, b ≠ T → H b = some u → H' b = some u
theorem A1.get {T b : Addr} {H H' : Hp} {u : HO} {pos : Pos} {qual : Str} (s : A1 T H H') (tb : LM.Tbl H T pos qual) (e : H b = some u) (n : ∀ ps, u ≠ .tbl ps) : H' b = some u := s b u (fun z => by
 obtain ⟨ps, h⟩ := tb.tab
 rw [z, h] at e
 exact n ps (zN e).symm) e
theorem A1.of {T : Addr} {H H' : Hp} (s : AI H H') : A1 T H H' := fun _ _ _ e => s.get e
theorem A1.trans {T : Addr} {H H1 H2 : Hp} (a : A1 T H H1) (b : A1 T H1 H2) : A1 T H H2 := fun c u n e => b c u n (a c u n e)
theorem A1.free {T D : Addr} {H H' : Hp} {pos : Pos} {qual : Str} (s : A1 T H H') (tb : LM.Tbl H' T pos qual) (n : H' D = none) : H D = none := by
 cases q : H D with
 | none => rfl
 | some u =>
  by_cases h : D = T
  ·obtain ⟨ps, z⟩ := tb.tab
   rw [h, z] at n; cases n
  ·rw [s D u h q] at n; cases n
theorem Bch.sameT {C T : Addr} {H H' : Hp} {b S P : Addr} {ow : List Addr} {gs : List G} {past : List (List G)} {pos : Pos} {qual : Str} (h : Bch C H b S P ow gs past) (s : A1 T H H') (tb : LM.Tbl H T pos qual) : Bch C H' b S P ow gs past :=
 h.keep fun a u ha e => by
  rcases ha with z | z | ⟨xs, z⟩
  ·obtain ⟨dx, eb⟩ := h.at_
   rw [z, eb] at e
   cases e
   rw [z]
   exact s.get tb eb fun _ z => by cases z
  ·obtain ⟨xs, ea⟩ := h.lv a z
   rw [ea] at e
   cases e
   exact s.get tb ea fun _ z => by cases z
  ·rw [z] at e ⊢
   exact s.get tb e fun _ z => by cases z
theorem Qb {ow ow' : List Addr} {H H' : Hp} {P : Addr} {pos : Pos} {qual : Str} (h : LM.Tbl H P pos qual) (k : Kept ow H H' ow') : LM.Tbl H' P pos qual := by
 rcases h with h | ⟨c, o, u, vs, t, h1, h2, h3⟩
 ·exact .inl (k.tbl _ _ h)
 ·exact .inr ⟨c, o, u, vs, t, k.tbl _ _ h1, k.frz _ _ _ h2, h3⟩
structure Ch (ow : List Addr) (H H' : Hp) (ow' : List Addr) : Prop where
 tup : ∀ c xs, H c = some (.tup xs) → H' c = some (.tup xs)
 lst : ∀ c xs, c ∉ ow → H c = some (.lst xs) → H' c = some (.lst xs)
 frz : ∀ c o u, H c = some (.frz o u) → H' c = some (.frz o u)
 off : ∀ c ∈ ow', c ∈ ow ∨ H c = none
 live : ∀ c u, H c = some u → ∃ u', H' c = some u'
theorem Kept.w {ow ow' : List Addr} {H H' : Hp} (k : Kept ow H H' ow') : Ch ow H H' ow' := ⟨k.tup, k.lst, k.frz, k.off, k.live⟩
theorem Ch.trans {ow ow1 ow2 : List Addr} {H H1 H2 : Hp} (a : Ch ow H H1 ow1) (b : Ch ow1 H1 H2 ow2) : Ch ow H H2 ow2 where
 tup := fun c xs e => b.tup c xs (a.tup c xs e)
 lst := fun c xs n e => b.lst c xs (fun z => by
  rcases a.off c z with z | z
  ·exact n z
  ·rw [z] at e; cases e) (a.lst c xs n e)
 frz := fun c o u e => b.frz c o u (a.frz c o u e)
 off := fun c h => by
  rcases b.off c h with z | z
  ·exact a.off c z
  ·refine .inr ?_
   cases q : H c with
   | none => rfl
   | some u => obtain ⟨u', e⟩ := a.live c u q; rw [z] at e; cases e
 live := fun c u e => let ⟨u', e'⟩ := a.live c u e; b.live c u' e'
theorem Ch.same {ow ow1 : List Addr} {H H1 H2 : Hp} (a : Ch ow H H1 ow1) (s : AI H1 H2) : Ch ow H H2 ow1 := a.trans (Kept.of s).w
theorem Ch.ofT {ow : List Addr} {T : Addr} {H H' : Hp} {pos : Pos} {qual : Str} (s : A1 T H H') (tb : LM.Tbl H T pos qual) (tb' : LM.Tbl H' T pos qual) : Ch ow H H' ow where
 tup := fun c xs e => s.get tb e fun _ z => by cases z
 lst := fun c xs _ e => s.get tb e fun _ z => by cases z
 frz := fun c o u e => s.get tb e fun _ z => by cases z
 off := fun _ h => .inl h
 live := fun c u e => by
  by_cases h : c = T
  ·obtain ⟨ps, z⟩ := tb'.tab
   rw [h]; exact ⟨_, z⟩
  ·exact ⟨u, s c u h e⟩
theorem Scr.keptW {K : W.Frag} {ow ow' : List Addr} {H H' : Hp} {a : Addr} {xs : List V} (h : Scr K ow H a xs) (k : Ch ow H H' ow') : Scr K ow' H' a xs := by
 rcases h with ⟨h, n⟩ | ⟨o, h⟩ | h
 ·exact .inl ⟨k.lst _ _ n h, Se k.off h n⟩
 ·exact .inr (.inl ⟨o, k.frz _ _ _ h⟩)
 ·exact .inr (.inr h)
end TG
namespace L2
open PySem PySem.Spec PyProof.Rows
section
variable {X : Cx}
end
end L2
namespace TG
open PySem L2
section
variable {T : Addr} {H H' : Hp} {pos : Pos} {qual : Str}
theorem A0.sameT {D : Addr} {gs : List G} (h : A0 H D gs) (s : A1 T H H') (tb : LM.Tbl H T pos qual) : A0 H' D gs := h.keep (fun _ e => s.get tb e fun _ z => by cases z) fun _ _ e => s.get tb e fun _ z => by cases z
theorem Wd.sameT {C : Addr} {b S P : Addr} {ow : List Addr} {gs : List G} {past : List (List G)} {D L : Addr} (h : Wd C H b S P ow gs past D L) (s : A1 T H H') (tb : LM.Tbl H T pos qual) : Wd C H' b S P ow gs past D L := by
 obtain ⟨ds, e, pr, n⟩ := h.pl
 exact ⟨h.bch.sameT s tb, h.dk.sameT s tb, ⟨ds, (s.get tb e fun _ z => by cases z), Paired.mapP pr fun _ _ q => q.sameT s tb, n⟩, h.po⟩
end
end TG
namespace L2
theorem MV {c : TT} {A B : TS} {D : Gn} {σ : St} {H : Hp} (h : ∀ a b : St → Hp → Prop, (∀ σ' H', A D σ' H' → a σ' H') → (∀ σ' H', B D σ' H' → b σ' H') → Pp c (fun _ => a) (fun _ => b) D σ H) : Pp c A B D σ H := h _ _ (fun _ _ z => z) fun _ _ z => z
open PySem PySem.Spec PyProof.Rows
section
variable {X : Cx} {CX : CXT} {k n : Nat} {f C : Addr} {fd : FuncData} {ps N : List Str} {sp : Sp} {E : XK} {x : Str} {p pos apos : Pos} {e : Expr} {es : List Expr} {t : TA} {st : Stmt} {a b : Expr} {ta tb te : TE} {r : R2}
theorem pcl (d : D X.K X.mg x st ps f fd) (F : Af X.prog X.w X.K X.mg X.base CX k f fd ps sp) (hr : CF n X.A) (hx : E7 CX X E) (ha : PA X (e :: es) t) (hk : k ≤ n := by decide) (hg : Gl X x := by rfl) (hdb : (x == ("__debug__" : Str)) = false := by decide)
  (he : starEach (e :: es) X.env = (false, eval e X.env) :: starEach es X.env := by rfl) (hpl : (backTo pos (starEach es X.env)).any (·.1) = false := by rfl) : PE X (.Call (.Name x p) (e :: es) [] pos) (HX sp [] E t) := WT F (hr.mono hk) hg d.m d.F.kp d.b .nil hx ha hdb he hpl
theorem pst (i : Nat) {sc : Scope} {pos' : Pos} (S : AR X.N ps sc) (he : PE X e te) (hi : X.N[i]? = some x := by rfl) (hx : Loc X.env.scope x := by first | exact Or.inl rfl | exact Or.inr rfl) (hs : swapsWith e (some (.Name x pos')) pos.line X.env = pure false := by rfl)
  (hf : X.fn x = true ∨ X.env.scope.names.lookup x = some .local := by first | exact .inl rfl | exact .inr rfl | assumption) : PS X (.Assign [.Name x pos'] e pos) (OX te (ET i)) := Zr S.nd hi hx he hs hf
theorem pgn (i : Nat) {sc : Scope} (S : AR X.N ps sc) (hi : X.N[i]? = some x := by rfl) (hx : Loc X.env.scope x := by first | exact Or.inl rfl | exact Or.inr rfl) (hf : X.fn x = true ∨ X.env.scope.names.lookup x = some .local := by first | exact .inl rfl | exact .inr rfl | assumption) : PG X (.Name x pos) (ET i) := Sy S.nd hi hx hf
theorem pxi (hr : IxR X r) (ha : PE X a ta) (hb : PE X b tb) (hs : So b := by exact fun _ _ => rfl) : PE X (.Subscript a b pos) (tOp r ta tb) := Vt hr ha hb hs
theorem pec {op : CmpOp} (ho : OpR X (compareOp op) r) (ha : PE X a ta) (hb : PE X b tb) (hm : behindInMarks op b = false := by exact Vg _) : PE X (.Compare a [op] [b] pos) (tOp r ta tb) := S9 ho ha hb hm
theorem ptc {op : CmpOp} (ho : OpR X (compareOp op) r) (ha : PE X a ta) (hb : PE X b tb) (hm : behindInMarks op b = false := by exact Vg _) : PT X (.Compare a [op] [b] pos) (G1 (tOp r ta tb)) := Wp ho ha hb hm
end
section
variable {X : Cx}
end
section
variable {X : Cx} {tg : Expr}
end
section
variable {X : Cx}
end
section
variable {X : Cx} {tg : Expr}
end
end L2
namespace TG
open PySem L2 PySem.W
noncomputable def Wr (K : Frag) (l : List Addr) : Prop := ∀ (i j : Nat) (a b : Addr), l[i]? = some a → l[j]? = some b → exmOne K (.ref a) (.ref b) = some (decide (i = j))
noncomputable def VY (K : Frag) (ns : List Str) : Bool := ns.zipIdx.all fun p => ns.zipIdx.all fun q => aV K p.1 q.1 == some (decide (p.2 = q.2))
noncomputable abbrev We (K : Frag) : List Str → List Addr → Prop := Paired fun n C => nsIn K mainGlobals n = some (some (.ref C))
theorem VO {K : Frag} {ns : List Str} {l : List Addr} (h : We K ns l) (e : VY K ns = true) : Wr K l := fun i j a b ha hb => by
 obtain ⟨n, hn, na⟩ := Paired.get h ha
 obtain ⟨m, hm, nb⟩ := Paired.get h hb
 unfold VY at e
 rw [List.all_eq_true] at e
 have e1 := e (n, i) (List.mem_zipIdx_iff_getElem?.mpr hn)
 rw [List.all_eq_true] at e1
 have e2 := e1 (m, j) (List.mem_zipIdx_iff_getElem?.mpr hm)
 exact Wv na nb (beq_iff_eq.mp e2)
theorem Vh {K : Frag} {l : List Addr} (h : Wr K l) {a : Addr} {D : Gn} {σ : St} {H : Hp} {c : Value} {th : TS} (k : th D σ H) : ∀ (ths : List (Value × TS)) (j m : Nat), (∀ n p, ths[n]? = some p → ∃ b, l[j + n]? = some b ∧ p.1 = .ref b) → ths[m]? = some (c, th) → l[j + m]? = some a → tHs K ths (.ref a) D σ H
 | [], _, _, _, ht, _ => by simp at ht
 | (c0, t0) :: r, j, m, hj, ht, hi => by
  obtain ⟨b, hb, eb⟩ := hj 0 _ rfl
  cases eb
  refine ⟨_, h _ _ a b hi hb, ?_⟩
  cases m with
  | zero =>
   rw [if_pos (z8 rfl)]
   cases ht
   exact k
  | succ m =>
   rw [if_neg (fun z => by have := z6 z; lia)]
   refine Vh h k r (j + 1) m (fun n p hp => ?_) ht ?_
   ·rw [show j + 1 + n = j + (n + 1) by lia]
    exact hj (n + 1) p hp
   ·rw [show j + 1 + m = j + (m + 1) by lia]
    exact hi
theorem EK {K : Frag} {l : List Addr} (h : Wr K l) (i : Nat) {a : Addr} (hi : l[i]? = some a) {ths : List (Value × TS)} {D : Gn} {σ : St} {H : Hp} {c : Value} {th : TS} (hm : ths.map Prod.fst = (l.take ths.length).map Value.ref) (ht : ths[i]? = some (c, th)) (k : th D σ H) : tHs K ths (.ref a) D σ H := by
 refine Vh h k ths 0 i (fun n p hp => ?_) ht (by rw [Nat.zero_add]; exact hi)
 have e := congrArg (·[n]?) hm
 simp only [zJ, hp, qM] at e
 rw [Nat.zero_add]
 obtain ⟨b, hb, eb⟩ := ze.mp e.symm
 rw [List.getElem?_take] at hb
 split at hb
 ·exact ⟨b, hb, eb.symm⟩
 ·cases hb
theorem M6 {a b a' b' : Int} (b0 : 0 < b) (b0' : 0 < b') (g : Int.gcd a b = 1) (g' : Int.gcd a' b' = 1) (e : a * b' = a' * b) : a = a' ∧ b = b' := by
 have d1 : b ∣ b' := by
  have h : b ∣ a * b' := ⟨a', by rw [e, Int.mul_comm]⟩
  have h2 : b.natAbs ∣ a.natAbs * b'.natAbs := by rw [← Int.natAbs_mul]; exact Int.natAbs_dvd_natAbs.mpr h
  have c : Nat.Coprime b.natAbs a.natAbs := by
   have : Int.gcd b a = 1 := by rw [Int.gcd_comm]; exact g
   exact this
  exact Int.natAbs_dvd_natAbs.mp (Nat.Coprime.dvd_of_dvd_mul_left c h2)
 have d2 : b' ∣ b := by
  have h : b' ∣ a' * b := ⟨a, by rw [← e, Int.mul_comm]⟩
  have h2 : b'.natAbs ∣ a'.natAbs * b.natAbs := by rw [← Int.natAbs_mul]; exact Int.natAbs_dvd_natAbs.mpr h
  have c : Nat.Coprime b'.natAbs a'.natAbs := by
   have : Int.gcd b' a' = 1 := by rw [Int.gcd_comm]; exact g'
   exact this
  exact Int.natAbs_dvd_natAbs.mp (Nat.Coprime.dvd_of_dvd_mul_left c h2)
 have eb : b = b' := Int.le_antisymm (Int.le_of_dvd b0' d1) (Int.le_of_dvd b0 d2)
 subst eb
 exact ⟨Int.eq_of_mul_eq_mul_right (by lia) e, rfl⟩
theorem Sl {t t' : Thr} {x : G} (ot : OkT t) (ot' : OkT t') (ec : t.c = t'.c) (ed : t.d = t'.d) (tx : t.gap x.p x.f = 0) (px : t'.pas x) : t.a * t'.b ≤ t'.a * t.b := by
 have b0 := ot.b0
 have b0' := ot'.b0
 have d0 := ot.d0
 obtain ⟨h, _⟩ := px
 rw [← ec, ← ed] at h
 have h2 := zk h (qB b0)
 have e : t.a * t.d + t.c * x.p * t.b = x.f * t.b * t.d := by
  have : t.gap x.p x.f = t.a * t.d + t.c * x.p * t.b - x.f * t.b * t.d := rfl
  lia
 have e2 : t.d * (t.a * t'.b) = t.b * (x.f * (t'.b * t.d)) - t.b * (x.p * t.c * t'.b) := by
  have : t'.b * (t.a * t.d + t.c * x.p * t.b) = t'.b * (x.f * t.b * t.d) := by rw [e]
  grind
 have e3 : t.d * (t'.a * t.b) = t.b * (t'.a * t.d + x.p * t.c * t'.b) - t.b * (x.p * t.c * t'.b) := by grind
 have : t.d * (t.a * t'.b) ≤ t.d * (t'.a * t.b) := by rw [e2, e3]; lia
 exact zj this d0
theorem Pf {t t' : Thr} {x y x' y' : G} (ot : OkT t) (ot' : OkT t') (lt : x.p < y.p) (tx : t.gap x.p x.f = 0) (ty : t.gap y.p y.h = 0) (lt' : x'.p < y'.p) (tx' : t'.gap x'.p x'.f = 0) (ty' : t'.gap y'.p y'.h = 0)
  (px : t'.pas x) (py : t'.pas y) (px' : t.pas x') (py' : t.pas y') : t = t' := by
 have h1 := Mp ot ot' lt tx ty px py
 have h2 := Mp ot' ot lt' tx' ty' px' py'
 have e : t.c * t'.d = t'.c * t.d := by omega
 obtain ⟨ec, ed⟩ := M6 ot.d0 ot'.d0 ot.g2 ot'.g2 e
 have h3 := Sl ot ot' ec ed tx px
 have h4 := Sl ot' ot ec.symm ed.symm tx' px'
 have e2 : t.a * t'.b = t'.a * t.b := by omega
 obtain ⟨ea, eb⟩ := M6 ot.b0 ot'.b0 ot.g1 ot'.g1 e2
 cases t
 cases t'
 simp only at ea eb ec ed
 subst ea eb ec ed
 rfl
theorem Rm {t : Thr} {x y x' y' : G} (ot : OkT t) (tx : t.gap x.p x.f = 0) (ty : t.gap y.p y.h = 0) (tx' : t.gap x'.p x'.f = 0) (ty' : t.gap y'.p y'.h = 0) : LeR x' y' x y := by
 have b0 := ot.b0
 have d0 := ot.d0
 have r : ∀ {u v : G}, t.gap u.p u.f = 0 → t.gap v.p v.h = 0 → (v.h - u.f) * t.d = t.c * (v.p - u.p) := fun {u v} hu hv => by
  have e1 : t.gap u.p u.f = t.a * t.d + t.c * u.p * t.b - u.f * t.b * t.d := rfl
  have e2 : t.gap v.p v.h = t.a * t.d + t.c * v.p * t.b - v.h * t.b * t.d := rfl
  have : t.b * ((v.h - u.f) * t.d) = t.b * (t.c * (v.p - u.p)) := by grind
  exact Int.eq_of_mul_eq_mul_left (by lia) this
 have h1 := r tx ty
 have h2 := r tx' ty'
 unfold LeR
 have : t.d * ((y'.h - x'.f) * (y.p - x.p)) = t.d * ((y.h - x.f) * (y'.p - x'.p)) := by grind
 exact Int.le_of_eq (Int.eq_of_mul_eq_mul_left (by lia) this)
end TG
namespace L2
open PySem
inductive Tr where
 | i (n : Int)
 | s (x : Str)
 | l (xs : List Tr)
 | t (xs : List Tr)
mutual
noncomputable def Enc (H : Hp) : Tr → V → Prop
 | .i n, v => v = .int n
 | .s x, v => v = .str x
 | .l xs, v => ∃ p vs, v = .ref p ∧ H p = some (.lst vs) ∧ Ao H xs vs
 | .t xs, v => ∃ p vs, v = .ref p ∧ H p = some (.tup vs) ∧ Ao H xs vs
noncomputable def Ao (H : Hp) : List Tr → List V → Prop
 | [], vs => vs = []
 | x :: xs, vs => ∃ v r, vs = v :: r ∧ Enc H x v ∧ Ao H xs r
end
mutual
theorem Enc.same {H H' : Hp} (s : AI H H') : ∀ {x : Tr} {v : V}, Enc H x v → Enc H' x v
 | .i _, _, h => h
 | .s _, _, h => h
 | .l _, _, ⟨p, vs, e, h, r⟩ => ⟨p, vs, e, s.get h, Ao.same s r⟩
 | .t _, _, ⟨p, vs, e, h, r⟩ => ⟨p, vs, e, s.get h, Ao.same s r⟩
theorem Ao.same {H H' : Hp} (s : AI H H') : ∀ {xs : List Tr} {vs : List V}, Ao H xs vs → Ao H' xs vs
 | [], _, h => h
 | _ :: _, _, ⟨v, r, e, h1, h2⟩ => ⟨v, r, e, Enc.same s h1, Ao.same s h2⟩
end
theorem Ao.len {H : Hp} : ∀ {xs : List Tr} {vs : List V}, Ao H xs vs → vs.length = xs.length
 | [], _, h => by rw [h]; rfl
 | _ :: _, _, ⟨v, r, e, _, h⟩ => by rw [e, zE, zE, Ao.len h]
theorem Ao.snoc {H : Hp} {x : Tr} {v : V} (h : Enc H x v) : ∀ {xs : List Tr} {vs : List V}, Ao H xs vs → Ao H (xs ++ [x]) (vs ++ [v])
 | [], _, e => by cases (show _ = [] from e); exact ⟨v, [], rfl, h, rfl⟩
 | _ :: _, _, ⟨u, r, e, h1, h2⟩ => by subst e; exact ⟨u, r ++ [v], rfl, h1, Ao.snoc h h2⟩
theorem Ao.get {H : Hp} : ∀ {xs : List Tr} {vs : List V} {i : Nat} {x : Tr}, Ao H xs vs → xs[i]? = some x → ∃ v, vs[i]? = some v ∧ Enc H x v
 | [], _, _, _, _, h => by simp at h
 | _ :: _, _, 0, _, ⟨v, r, e, h1, _⟩, h => by cases h; exact ⟨v, by rw [e]; rfl, h1⟩
 | _ :: _, _, i + 1, _, ⟨v, r, e, _, h2⟩, h => by
  obtain ⟨u, h3, h4⟩ := Ao.get h2 (i := i) h
  exact ⟨u, by rw [e]; exact h3, h4⟩
mutual
noncomputable def Tr.ok : Nat → Tr → Prop
 | _, .i _ => True
 | _, .s _ => True
 | n, .l xs => ∃ m, n = m + 1 ∧ xs.length ≤ 1000 ∧ Tr.okL m xs
 | n, .t xs => ∃ m, n = m + 1 ∧ xs.length ≤ 1000 ∧ Tr.okL m xs
noncomputable def Tr.okL : Nat → List Tr → Prop
 | _, [] => True
 | m, x :: xs => Tr.ok m x ∧ Tr.okL m xs
end
theorem okL_mem {m : Nat} : ∀ {xs : List Tr} {k : Nat} {x : Tr}, Tr.okL m xs → xs[k]? = some x → Tr.ok m x
 | [], _, _, _, h => by simp at h
 | _ :: _, 0, _, h, e => by cases e; exact h.1
 | _ :: _, k + 1, _, h, e => okL_mem (k := k) h.2 e
open PySem.Spec PyProof.Rows
section
variable {X : Cx}
noncomputable def rIsT (K : W.Frag) : List V → Hp → VK → Prop := fun xs H Q => ∃ (x : V) (p : Addr) (t : Value) (ts : List String) (b : Bool), xs = [x, .ref p] ∧ H p = some (.tup (ts.map V.ty)) ∧ E1 K H x t ∧ W.kitAny K t (ts.map Value.type) = some b ∧ Q (.bl b) H
theorem vals_ty : ∀ {ts : List String} {us : List Value}, Al (ts.map V.ty) us → us = ts.map Value.type
 | [], _, h => by cases h; rfl
 | _ :: _, _, .cons r h => by
  cases (show _ = Value.type _ from r)
  rw [vals_ty h]; rfl
theorem call_isT : Bl X (.builtin "isinstance") (rIsT X.K) := by
 intro pins s σ H xs us Q I r h
 obtain ⟨x, p, t, ts, b, rfl, hp, ty, e, q⟩ := h
 obtain ⟨u, w', rfl, r1, r2⟩ := vals2 r
 cases (show w' = Value.ref p from r2)
 obtain ⟨_, its, rv, o, ho, hc, n, hd⟩ := (show A3 X.prog X.w H s.heap p (.tup (ts.map V.ty)) from I.hok p _ hp)
 have ei := vals_ty rv
 subst ei
 obtain ⟨oc, od, odt, osl⟩ := o
 simp only at hc hd
 subst hc hd
 have fin : ∀ tk, (EP X pins σ Q) (.bool b) { s with toks := tk } := fun tk => ⟨.bl b, H, I.tok tk, rfl, q⟩
 cases ty with
 | non => cases (show u = Value.none from r1); exact W.kia_tup W.kitx_none I.kIn True.intro ho e (fun z => nomatch z) fin
 | bl y => cases (show u = Value.bool y from r1); exact W.kia_tup W.kitx_bool I.kIn True.intro ho e (fun z => nomatch z) fin
 | int i => obtain ⟨t, q⟩ := (show ∃ t, u = Value.int i t from r1); cases q; exact W.kia_tup W.kitx_int I.kIn True.intro ho e (fun z => nomatch z) fin
 | str y => obtain ⟨t, q⟩ := (show ∃ t, u = Value.str y t from r1); cases q; exact W.kia_tup W.kitx_str I.kIn True.intro ho e (fun z => nomatch z) fin
 | @lst a xs ea =>
  cases (show u = Value.ref a from r1)
  obtain ⟨_, _, n, _, h1⟩ := (show A3 X.prog X.w H s.heap a (.lst xs) from I.hok a _ ea)
  exact W.kia_tup W.kitx_list I.kIn ⟨_, h1, rfl⟩ ho e (fun z => nomatch z) fin
 | @tup a xs ea =>
  cases (show u = Value.ref a from r1)
  obtain ⟨_, _, _, h1⟩ := (show A3 X.prog X.w H s.heap a (.tup xs) from I.hok a _ ea)
  obtain ⟨o2, ho2, hc2, n2, hd2⟩ := h1
  exact W.kia_tup W.kitx_tuple I.kIn ⟨_, ho2, hc2⟩ ho e (fun z => nomatch z) fin
 | flt y => obtain ⟨t, q⟩ := (show ∃ t, u = Value.float y t from r1); cases q; exact W.kia_tup W.kitx_float I.kIn True.intro ho e (fun z => nomatch z) fin
 | @frz a ob xs ea =>
  cases (show u = Value.ref a from r1)
  obtain ⟨_, _, _, n, _, h1⟩ := (show A3 X.prog X.w H s.heap a (.frz ob (.lst xs)) from I.hok a _ ea)
  exact W.kia_tup W.kitx_list I.kIn ⟨_, h1, rfl⟩ ho e (fun z => nomatch z) fin
 | @dK a kvs ea =>
  cases (show u = Value.ref a from r1)
  obtain ⟨_, _, vs, _, p⟩ := (show A3 X.prog X.w H s.heap a (.dK kvs) from I.hok a _ ea)
  obtain ⟨o, es, ep, h1, h2, _⟩ := p
  exact W.kia_tup W.kitx_dict I.kIn ⟨o, h1, h2.1⟩ ho e (fun z => nomatch z) fin
 | @dT a kvs ea =>
  cases (show u = Value.ref a from r1)
  obtain ⟨_, _, xs, _, o, es, ep, h1, h2, _⟩ := (show A3 X.prog X.w H s.heap a (.dT kvs) from I.hok a _ ea)
  exact W.kia_tup W.kitx_dict I.kIn ⟨o, h1, h2.1⟩ ho e (fun z => nomatch z) fin
 | @ins a C dx fs ea cl ha hn htk hm =>
  cases (show u = Value.ref a from r1)
  obtain ⟨mA, O, _⟩ := Kl I.hok ea
  obtain ⟨od, J, _⟩ := O.look
  exact W.kia_tup (W.kitx_own (cl.get _) cl.hd ha hn htk hm) I.kIn J ho e (fun z => nomatch z) fin
end
section
variable {X : Cx}
theorem W9 {r1 r2 : R2} (h1 : IxR X r1) (h2 : IxR X r2) : IxR X (fun x y H Q => r1 x y H Q ∨ r2 x y H Q) := by
 intro value slice pins s σ H x y v u Q I rx ry h hs
 rcases h with h | h
 ·exact h1 value slice pins s σ H x y v u Q I rx ry h hs
 ·exact h2 value slice pins s σ H x y v u Q I rx ry h hs
end
end L2
namespace TG
open PySem L2
noncomputable def P9 (gs : List G) (x y : G) : Prop := ∀ x' ∈ gs, ∀ y' ∈ gs, x'.p < y'.p → LeR x' y' x y → (x.p < x'.p ∨ (x.p = x'.p ∧ y.p ≤ y'.p))
noncomputable def Own (gs : List G) (t : Thr) : Prop := (∀ g, gs = [g] → t = ⟨g.f, 1, 0, 1⟩) ∧ (2 ≤ gs.length → OkT t ∧ (∀ g ∈ gs, t.pas g) ∧ ∃ x ∈ gs, ∃ y ∈ gs, x.p < y.p ∧ t.gap x.p x.f = 0 ∧ t.gap y.p y.h = 0)
theorem Own.uniq {gs : List G} {t t' : Thr} (h : Own gs t) (h' : Own gs t') (ne : gs ≠ []) : t = t' := by
 match gs, ne, h, h' with
 | [g], _, h, h' => rw [h.1 g rfl, h'.1 g rfl]
 | a :: b :: r, _, h, h' =>
  obtain ⟨o1, al1, x, hx, y, hy, lt, tx, ty⟩ := h.2 (by simp)
  obtain ⟨o2, al2, x', hx', y', hy', lt', tx', ty'⟩ := h'.2 (by simp)
  exact Pf o1 o2 lt tx ty lt' tx' ty' (al2 x hx) (al2 y hy) (al1 x' hx') (al1 y' hy')
structure Edg (sg : List G) (t : Thr) (p q : Int) : Prop where
 ok : OkT t
 all : ∀ g ∈ sg, t.pas g
 at_ : ∃ x ∈ sg, ∃ y ∈ sg, x.p < y.p ∧ t.gap x.p x.f = 0 ∧ t.gap y.p y.h = 0 ∧ P9 sg x y ∧ p = x.p ∧ q = y.p
theorem Edg.uniq {sg : List G} {t t' : Thr} {p q p' q' : Int} (h : Edg sg t p q) (h' : Edg sg t' p' q') : t = t' ∧ p = p' ∧ q = q' := by
 obtain ⟨o1, al1, x, hx, y, hy, lt, tx, ty, fp, rfl, rfl⟩ := h
 obtain ⟨o2, al2, x', hx', y', hy', lt', tx', ty', fp', rfl, rfl⟩ := h'
 cases Pf o1 o2 lt tx ty lt' tx' ty' (al2 x hx) (al2 y hy) (al1 x' hx') (al1 y' hy')
 have z1 := fp x' hx' y' hy' lt' (Rm o1 tx ty tx' ty')
 have z2 := fp' x hx y hy lt (Rm o1 tx' ty' tx ty)
 exact ⟨rfl, by lia, by lia⟩
noncomputable abbrev trT (t : Thr) : Tr := .t [.i t.a, .i t.b, .i t.c, .i t.d]
noncomputable abbrev trB (t : List Int) : Tr := .t [.s "bar", .t (t.map Tr.i)]
inductive Nf (sg : List G) (x : Tr) : Prop where
 | throw (t : Thr) (ok : OkT t) (all : ∀ g ∈ sg, t.pas g) (ow : Own sg t) (e : x = .t [.s "throw", trT t])
 | bar (t : List Int) (ne : t ≠ []) (f : By sg t) (e : x = trB t)
theorem Nf.uniq {sg : List G} {x y : Tr} (ne : sg ≠ []) (h : Nf sg x) (h' : Nf sg y) : x = y := by
 rcases h with ⟨t, ok, all, ow, rfl⟩ | ⟨t, n1, f, rfl⟩ <;> rcases h' with ⟨t', ok', all', ow', rfl⟩ | ⟨t', n1', f', rfl⟩
 ·rw [ow.uniq ow' ne]
 ·exact absurd (EV ok all f') n1'
 ·exact absurd (EV ok' all' f) n1
 ·rw [f.uniq f']
inductive Jc (f : Thr → Thr) (sg hg : List G) (x : Tr) : Prop where
 | throw (t : Thr) (p q : Int) (ok : OkT (f t)) (all : ∀ g ∈ sg, (f t).pas g) (ed : Edg hg t p q) (e : x = .t [.s "throw", trT (f t), .i p, .i q])
 | bar (t : List Int) (ne : t ≠ []) (f : By sg t) (e : x = trB t)
theorem Jc.uniq {f : Thr → Thr} {sg hg : List G} {x y : Tr} (h : Jc f sg hg x) (h' : Jc f sg hg y) : x = y := by
 rcases h with ⟨t, p, q, ok, all, ed, rfl⟩ | ⟨t, n1, f, rfl⟩ <;> rcases h' with ⟨t', p', q', ok', all', ed', rfl⟩ | ⟨t', n1', f', rfl⟩
 ·obtain ⟨e1, e2, e3⟩ := ed.uniq ed'
  rw [e1, e2, e3]
 ·exact absurd (EV ok all f') n1'
 ·exact absurd (EV ok' all' f) n1
 ·rw [f.uniq f']
noncomputable abbrev trR (r : Run) : Tr := .t [.i r.g.p, .i r.last.p, trT r.t]
noncomputable abbrev Q8 (rs : List Run) : Prop := ∀ r ∈ rs, Own r.all r.t
structure RQ (sg : List G) (x : Tr) : Prop where
 at_ : ∃ rs : List Run, x = .l (rs.map trR) ∧ rs.flatMap Run.all = sg ∧ Far rs ∧ Q8 rs ∧ ∀ r ∈ rs, OkT r.t ∧ ∀ g ∈ r.all, r.t.pas g
theorem PV {t : Thr} {gs : List G} (ha : Asc gs) (ot : OkT t) (all : ∀ g ∈ gs, t.pas g) : Be gs := fun i j k hb => by
 obtain ⟨h1, h2, a, b, c, e1, e2, e3, hb⟩ := hb
 have l1 := Bi ha e1 e2 h1
 have l2 := Bi ha e2 e3 h2
 have p1 := D5.mp (all a (zU e1))
 have p2 := D5.mp (all b (zU e2))
 have p3 := D5.mp (all c (zU e3))
 exact HY l1 l2 (Int.mul_pos ot.b0 ot.d0) hb p1 p2 p3
theorem Asc.left {xs ys : List G} (h : Asc (xs ++ ys)) : Asc xs := (List.pairwise_append.mp h).1
theorem Be.prefix {x y : List G} (h : Be (x ++ y)) : Be x := Be.infix (x := []) (z := y) h
theorem RK {r r' : Run} {rest : List Run} {u : List G} (far : Far (r :: rest)) (e : r.all ++ rest.flatMap Run.all = r'.all ++ u) (nb : Be r'.all) : r'.all.length ≤ r.all.length := by
 apply Classical.byContradiction
 intro hl
 match rest, far, e with
 | [], _, e =>
  have := congrArg List.length e
  simp only [List.flatMap_nil, qK, zC] at this
  lia
 | r2 :: rest, far, e =>
  have hf := far.1
  have e2 : r.all ++ [r2.g] ++ (r2.rest ++ rest.flatMap Run.all) = r'.all ++ u := by rw [← e, qH]; simp
  have e3 : r'.all = r.all ++ [r2.g] ++ r'.all.drop (r.all ++ [r2.g]).length := by
   have l1 : (r.all ++ [r2.g]).length ≤ r'.all.length := by rw [zC]; simp only [zE, zP] at hl ⊢; lia
   have t1 : r'.all.take (r.all ++ [r2.g]).length = r.all ++ [r2.g] := by
    have := congrArg (List.take (r.all ++ [r2.g]).length) e2
    rw [List.take_left, List.take_append_of_le_length l1] at this
    exact this.symm
   conv => lhs; rw [← List.take_append_drop (r.all ++ [r2.g]).length r'.all, t1]
  rw [e3] at nb
  exact hf (Be.prefix nb)
theorem PJ : ∀ {rs rs' : List Run}, Asc (rs.flatMap Run.all) → rs.flatMap Run.all = rs'.flatMap Run.all → Far rs → Far rs' → Q8 rs → Q8 rs' → (∀ r ∈ rs, OkT r.t ∧ ∀ g ∈ r.all, r.t.pas g) → (∀ r ∈ rs', OkT r.t ∧ ∀ g ∈ r.all, r.t.pas g) → rs = rs'
 | [], [], _, _, _, _, _, _, _, _ => rfl
 | [], r' :: rs', _, e, _, _, _, _, _, _ => by simp [Run.all] at e
 | r :: rs, [], _, e, _, _, _, _, _, _ => by simp [Run.all] at e
 | r :: rs, r' :: rs', ha, e, f, f', o, o', p, p' => by
  rw [qH] at ha
  have ha' : Asc (r'.all ++ rs'.flatMap Run.all) := by rw [← qH, ← e, qH]; exact ha
  rw [qH, qH] at e
  obtain ⟨ot, al⟩ := p r zR
  obtain ⟨ot', al'⟩ := p' r' zR
  have n1 := PV (Asc.left ha) ot al
  have n2 := PV (Asc.left ha') ot' al'
  have l1 := RK f e n2
  have l2 := RK f' e.symm n1
  obtain ⟨e1, e2⟩ := List.append_inj e (by lia)
  have et : r.t = r'.t := (o r zR).uniq (e1 ▸ o' r' zR) (by simp [Run.all])
  have er : r = r' := by
   cases r; cases r'
   simp only [Run.all, zy] at e1
   obtain ⟨a, b⟩ := e1
   simp only at et
   subst a b et
   rfl
  have fr : ∀ {a : Run} {l : List Run}, Far (a :: l) → Far l := fun {a l} h => by
   cases l with
   | nil => trivial
   | cons _ _ => exact h.2
  rw [er, PJ (Asc.right ha) e2 (fr f) (fr f') (fun r hr => o r (zD _ hr)) (fun r hr => o' r (zD _ hr)) (fun r hr => p r (zD _ hr)) (fun r hr => p' r (zD _ hr))]
theorem RQ.uniq {sg : List G} {x y : Tr} (ha : Asc sg) (h : RQ sg x) (h' : RQ sg y) : x = y := by
 obtain ⟨rs, rfl, e1, f1, o1, p1⟩ := h.at_
 obtain ⟨rs', rfl, e2, f2, o2, p2⟩ := h'.at_
 rw [PJ (by rw [e1]; exact ha) (by rw [e1, e2]) f1 f2 o1 o2 p1 p2]
theorem FD.uniq {t b x y x' y' : Int} (hb : b ≠ 0) (h : FD t b x y) (h' : FD t b x' y') : x = x' ∧ y = y' := by
 have e1 := h.eq
 have e2 := h'.eq
 refine M6 h.pos h'.pos h.one h'.one ?_
 have : b * (x * y') = b * (x' * y) := by
  have z1 : b * (x * y') = (b * x) * y' := by rw [Int.mul_assoc]
  have z2 : b * (x' * y) = (b * x') * y := by rw [Int.mul_assoc]
  rw [z1, z2, ← e1, ← e2, Int.mul_assoc, Int.mul_assoc, Int.mul_comm y y']
 exact Int.eq_of_mul_eq_mul_left hb this
noncomputable def Oy (x y : G) (t : Thr) : Prop := FD (x.f * (y.p - x.p) - x.p * (y.h - x.f)) (y.p - x.p) t.a t.b ∧ FD (y.h - x.f) (y.p - x.p) t.c t.d
theorem Oy.uniq {x y : G} {t t' : Thr} (lt : x.p < y.p) (h : Oy x y t) (h' : Oy x y t') : t = t' := by
 obtain ⟨e1, e2⟩ := h.1.uniq (by lia) h'.1
 obtain ⟨e3, e4⟩ := h.2.uniq (by lia) h'.2
 cases t; cases t'
 simp only at e1 e2 e3 e4
 subst e1 e2 e3 e4
 rfl
instance : Nonempty Thr := ⟨⟨0, 0, 0, 0⟩⟩
noncomputable def Sk (x y : G) : Thr := Classical.epsilon (Oy x y)
theorem Vd {x y : G} {t : Thr} (lt : x.p < y.p) (h : Oy x y t) : t = Sk x y := h.uniq lt (Classical.epsilon_spec ⟨t, h⟩)
noncomputable def Lv (gs : List G) (i j : Nat) : List Thr := (List.range i).flatMap (fun a => (gs.drop (a + 1)).map (Sk (gs.getD a ⟨0, 0, 0⟩))) ++ ((gs.drop (i + 1)).take j).map (Sk (gs.getD i ⟨0, 0, 0⟩))
theorem T0 (gs : List G) (i : Nat) : Lv gs i (gs.drop (i + 1)).length = Lv gs (i + 1) 0 := by
 unfold Lv
 rw [zl, List.range_succ, List.flatMap_append, List.take_zero]
 simp
theorem SY {gs : List G} {i j : Nat} {x y : G} (hx : gs[i]? = some x) (hy : gs[i + 1 + j]? = some y) : Lv gs i (j + 1) = Lv gs i j ++ [Sk x y] := by
 unfold Lv
 have hj : j < (gs.drop (i + 1)).length := by
  have := (zA.mp hy).1
  rw [zu]; lia
 have e : (gs.drop (i + 1))[j] = y := by
  have := z4 hj
  rw [List.getElem?_drop, hy] at this
  exact (zN this).symm
 rw [zM hj, e, zW, ← qI]
 have : gs.getD i ⟨0, 0, 0⟩ = x := by rw [zI, hx]; rfl
 rw [this]; rfl
noncomputable def LY (gs : List G) : List Thr := ⟨(gs.getD 0 ⟨0, 0, 0⟩).f, 1, 0, 1⟩ :: Lv gs gs.length 0
structure Q9 (sg : List G) (x : Tr) : Prop where
 at_ : ∃ (i : Nat) (t : Thr), (LY sg)[i]? = some t ∧ (∀ (j : Nat) (t' : Thr), (LY sg)[j]? = some t' → LX sg t' ≤ LX sg t ∧ (j < i → LX sg t' < LX sg t)) ∧ x = .t [.l ((AT (sg.filter fun g => decide (t.pas g))).map Tr.i), trT t]
theorem Q9.uniq {sg : List G} {x y : Tr} (h : Q9 sg x) (h' : Q9 sg y) : x = y := by
 obtain ⟨i, t, e, b, rfl⟩ := h.at_
 obtain ⟨i', t', e', b', rfl⟩ := h'.at_
 have z1 := b i' t' e'
 have z2 := b' i t e
 have : i = i' := by lia
 subst this
 rw [e] at e'
 cases e'
 rfl
theorem Ao.ints (H : Hp) : ∀ xs : List Int, Ao H (xs.map Tr.i) (xs.map V.int)
 | [] => rfl
 | _ :: xs => ⟨_, _, rfl, rfl, Ao.ints H xs⟩
theorem U2 {H : Hp} {q : Addr} {t : Thr} (e : H q = some (.tup t.vs)) : Enc H (trT t) (.ref q) := ⟨q, _, rfl, e, Ao.ints H [t.a, t.b, t.c, t.d]⟩
theorem aI {H : Hp} {D q : Addr} {t : List Int} (e : H D = some (.tup [.str "bar", .ref q])) (e2 : H q = some (.tup (t.map V.int))) : Enc H (trB t) (.ref D) := ⟨D, _, rfl, e, _, _, rfl, rfl, _, _, rfl, ⟨q, _, rfl, e2, Ao.ints H t⟩, rfl⟩
theorem VI {H : Hp} : ∀ {as : List Addr} {rs : List Run}, Paired (Gs H) as rs → Ao H (rs.map trR) (as.map V.ref)
 | _, _, .nil => rfl
 | _, _, .cons ⟨q, e1, e2, _, _⟩ t => ⟨_, _, rfl, ⟨_, _, rfl, e1, _, _, rfl, rfl, _, _, rfl, rfl, _, _, rfl, U2 e2, rfl⟩, VI t⟩
theorem Paired.all {α β : Type} {F : α → β → Prop} {P : β → Prop} (hF : ∀ a b, F a b → P b) : ∀ {xs : List α} {ys : List β}, Paired F xs ys → ∀ y ∈ ys, P y
 | _, _, .nil, _, h => absurd h (by simp)
 | _, _, .cons f t, y, h => by
  rcases zL.mp h with rfl | h
  ·exact hF _ _ f
  ·exact Paired.all hF t y h
theorem HG (m : Nat) : ∀ xs : List Int, Tr.okL m (xs.map Tr.i)
 | [] => trivial
 | _ :: xs => ⟨trivial, HG m xs⟩
theorem Wm (m : Nat) (t : Thr) : Tr.ok (m + 1) (trT t) := ⟨m, rfl, by simp, HG m [t.a, t.b, t.c, t.d]⟩
theorem XC (m : Nat) {t : List Int} (h : t.length ≤ 1000) : Tr.ok (m + 2) (trB t) := ⟨m + 1, rfl, by simp, trivial, ⟨m, rfl, by rw [z5]; exact h, HG m t⟩, trivial⟩
theorem Nf.okd {sg : List G} {x : Tr} (h : Nf sg x) (m : Nat) : Tr.ok (m + 2) x := by
 rcases h with ⟨t, ok, all, ow, rfl⟩ | ⟨t, n1, f, rfl⟩
 ·exact ⟨m + 1, rfl, by simp, trivial, Wm m t, trivial⟩
 ·exact XC m (by rw [f.len3 n1]; decide)
theorem Jc.okd {f : Thr → Thr} {sg hg : List G} {x : Tr} (h : Jc f sg hg x) (m : Nat) : Tr.ok (m + 2) x := by
 rcases h with ⟨t, p, q, ok, all, ed, rfl⟩ | ⟨t, n1, f, rfl⟩
 ·exact ⟨m + 1, rfl, by simp, trivial, Wm m _, trivial, trivial, trivial⟩
 ·exact XC m (by rw [f.len3 n1]; decide)
theorem QF {α : Type} {m : Nat} {f : α → Tr} (h : ∀ a, Tr.ok m (f a)) : ∀ xs : List α, Tr.okL m (xs.map f)
 | [] => trivial
 | a :: xs => ⟨h a, QF h xs⟩
theorem RQ.okd {sg : List G} {x : Tr} (h : RQ sg x) (hl : sg.length ≤ 1000) (m : Nat) : Tr.ok (m + 3) x := by
 obtain ⟨rs, rfl, e, _, _, _⟩ := h.at_
 refine ⟨m + 2, rfl, ?_, QF (f := trR) (m := m + 2) (fun r => ⟨m + 1, rfl, by simp, trivial, trivial, Wm m _, trivial⟩) rs⟩
 have := QJ rs
 rw [e] at this
 rw [z5]; lia
theorem Q9.okd {sg : List G} {x : Tr} (h : Q9 sg x) (hl : sg.length ≤ 1000) (m : Nat) : Tr.ok (m + 2) x := by
 obtain ⟨i, t, _, _, rfl⟩ := h.at_
 refine ⟨m + 1, rfl, by simp, ⟨m, rfl, ?_, HG m _⟩, Wm m t, trivial⟩
 have := zw (fun g => decide (t.pas g)) sg
 rw [z5, AT, z5]; lia
noncomputable def R0 (rs : List Run) : Prop := Far rs ∧ Q8 rs
theorem To {rs : List Run} {r r' : Run} (h : R0 (rs ++ [r])) (nb : ¬ Be (r.all ++ [r'.g])) (o : Own r'.all r'.t) : R0 (rs ++ [r] ++ [r']) :=
 ⟨Q6 h.1 nb, fun x hx => by
  rcases zb.mp hx with z | z
  ·exact h.2 x z
  ·rw [zK.mp z]; exact o⟩
theorem UO {rs : List Run} {r r' : Run} (h : R0 (rs ++ [r])) (e : r.g = r'.g) (o : Own r'.all r'.t) : R0 (rs ++ [r']) :=
 ⟨Rh h.1 e, fun x hx => by
  rcases zb.mp hx with z | z
  ·exact h.2 x (zz _ z)
  ·rw [zK.mp z]; exact o⟩
theorem Up {r : Run} (o : Own r.all r.t) : R0 ([] ++ [r]) := ⟨trivial, fun x hx => by rw [zK.mp hx]; exact o⟩
structure U9 (H' : Hp) (R S L : Addr) (as1 : List Addr) (sg : List G) (ra : List Addr) (rs : List Run) (bs : List Addr) (cur : List G) (tv : V) (i : Nat) : Prop where
 eR : H' R = some (.lst (ra.map V.ref))
 at_ : Paired (Gs H') ra rs
 eL : H' L = some (.lst (bs.map V.ref))
 gb : Ak H' bs cur
 neL : L ≠ R
 eS : H' S = some (.lst (as1.map V.ref))
 gS : Ak H' as1 sg
 neS : S ≠ R
 sp : rs.flatMap Run.all ++ cur = sg.take i
 th : (cur = [] ∧ rs = [] ∧ i = 0) ∨ ∃ q t g rest, tv = .ref q ∧ H' q = some (.tup t.vs) ∧ OkT t ∧ (∀ x ∈ cur, t.pas x) ∧ cur = g :: rest ∧ R0 (rs ++ [⟨g, rest, t⟩])
theorem U9.same {H H' : Hp} {R S L : Addr} {as1 : List Addr} {sg : List G} {ra : List Addr} {rs : List Run} {bs : List Addr} {cur : List G} {tv : V} {i : Nat} (h : U9 H R S L as1 sg ra rs bs cur tv i) (s : AI H H') : U9 H' R S L as1 sg ra rs bs cur tv i :=
 ⟨s.get h.eR, Paired.mapP h.at_ fun _ _ e => e.same s, s.get h.eL, h.gb.same s, h.neL, s.get h.eS, h.gS.same s, h.neS, h.sp, h.th.imp_right fun ⟨q, t, g, rest, e1, e2, e3⟩ => ⟨q, t, g, rest, e1, s.get e2, e3⟩⟩
theorem VL {H : Hp} {D : Addr} {as : List Addr} {rs : List Run} {gs sg : List G} (h : QL H D as rs gs) (o : Q8 rs) (hp : sg.Perm gs) (ha : Asc sg) : RQ sg (.l (rs.map trR)) ∧ Enc H (.l (rs.map trR)) (.ref D) :=
 ⟨⟨rs, rfl, Bg h.asc ha (h.perm.trans hp.symm), h.far, o, Paired.all (P := fun r : Run => OkT r.t ∧ ∀ g ∈ r.all, r.t.pas g) (fun _ _ ⟨_, _, _, e⟩ => e) h.at_⟩, ⟨D, _, rfl, h.eD, VI h.at_⟩⟩
noncomputable def tri (gs : List G) (i j : Nat) : List Thr := ⟨(gs.getD 0 ⟨0, 0, 0⟩).f, 1, 0, 1⟩ :: Lv gs i j
theorem Tz {gs : List G} {t : Thr} (h : 0 < gs.length) (o : Own (gs.take 1) t) : [t] = tri gs 0 0 := by
 match gs, h, o with
 | g :: r, _, o => rw [o.1 g rfl]; rfl
theorem WU (gs : List G) (i : Nat) : tri gs i (gs.drop (i + 1)).length = tri gs (i + 1) 0 := by unfold tri; rw [T0]
theorem VR {gs : List G} {i j : Nat} {x y : G} {t : Thr} {ts : List Thr} (e : ts = tri gs i j) (hx : gs[i]? = some x) (hy : gs[i + 1 + j]? = some y) (lt : x.p < y.p) (h : Oy x y t) : ts ++ [t] = tri gs i (j + 1) := by
 unfold tri at *
 rw [SY hx hy, e, Vd lt h]; rfl
theorem WD (gs : List G) : tri gs gs.length 0 = LY gs := rfl
noncomputable def Uj (sg : List G) (t : Thr) : Prop := ∃ i : Nat, (LY sg)[i]? = some t ∧ ∀ (j : Nat) (t' : Thr), (LY sg)[j]? = some t' → LX sg t' ≤ LX sg t ∧ (j < i → LX sg t' < LX sg t)
theorem Qv {H : Hp} {D : Addr} {gs : List G} {L q : Addr} {t : Thr} {sg : List G} (h : LJ H D gs L q t sg) (f : Uj sg t) : Q9 sg (.t [.l ((AT (sg.filter fun g => decide (t.pas g))).map Tr.i), trT t]) ∧ Enc H (.t [.l ((AT (sg.filter fun g => decide (t.pas g))).map Tr.i), trT t]) (.ref D) := by
 obtain ⟨i, e, b⟩ := f
 exact ⟨⟨i, t, e, b, rfl⟩, D, _, rfl, h.eD, _, _, rfl, ⟨L, _, rfl, h.eL, Ao.ints H _⟩, _, _, rfl, U2 h.eq, rfl⟩
mutual
theorem Enc.sameT {H H' : Hp} {T : Addr} {pos : Pos} {qual : Str} (s : A1 T H H') (tb : LM.Tbl H T pos qual) : ∀ {x : Tr} {v : V}, Enc H x v → Enc H' x v
 | .i _, _, h => h
 | .s _, _, h => h
 | .l _, _, ⟨p, vs, e, h, r⟩ => ⟨p, vs, e, s.get tb h (fun _ z => nomatch z), Ao.sameT s tb r⟩
 | .t _, _, ⟨p, vs, e, h, r⟩ => ⟨p, vs, e, s.get tb h (fun _ z => nomatch z), Ao.sameT s tb r⟩
theorem Ao.sameT {H H' : Hp} {T : Addr} {pos : Pos} {qual : Str} (s : A1 T H H') (tb : LM.Tbl H T pos qual) : ∀ {xs : List Tr} {vs : List V}, Ao H xs vs → Ao H' xs vs
 | [], _, h => h
 | _ :: _, _, ⟨v, r, e, h1, h2⟩ => ⟨v, r, e, Enc.sameT s tb h1, Ao.sameT s tb h2⟩
end
theorem Tbl_updL {H : Hp} {P L : Addr} {xs : List V} {o : HO} {pos : Pos} {qual : Str} (h : LM.Tbl H P pos qual) (e : H L = some (.lst xs)) : LM.Tbl (upd H L o) P pos qual := by
 rcases h with h | ⟨c, o', u, vs, t, h1, h2, h3⟩
 ·exact .inl ((AL (fun z => by rw [z, e] at h; cases h)).trans h)
 ·exact .inr ⟨c, o', u, vs, t, (AL (fun z => by rw [z, e] at h1; cases h1)).trans h1, (AL (fun z => by rw [z, e] at h2; cases h2)).trans h2, h3⟩
theorem A1.updFresh {T L : Addr} {H H' : Hp} {o : HO} (s : A1 T H H') (n : H L = none) : A1 T H (upd H' L o) := fun b u nb e => by
 rw [AL (fun z => by rw [z, n] at e; cases e)]; exact s b u nb e
noncomputable abbrev trG (g : G) : Tr := .t [.i g.p, .i g.f, .i g.h]
theorem XB {H : Hp} : ∀ {as : List Addr} {gs : List G}, Ak H as gs → Ao H (gs.map trG) (as.map V.ref)
 | _, _, .nil => rfl
 | _, _, .cons h t => ⟨_, _, rfl, ⟨_, _, rfl, h, Ao.ints H [_, _, _]⟩, XB t⟩
theorem R9 {H : Hp} : ∀ {gs : List G} {vs : List V}, Ao H (gs.map trG) vs → ∃ as : List Addr, vs = as.map V.ref ∧ Ak H as gs
 | [], _, h => ⟨[], h, .nil⟩
 | g :: gs, _, ⟨_, _, e, ⟨a, us, e2, h1, h2⟩, h3⟩ => by
  obtain ⟨as, rfl, ga⟩ := R9 h3
  subst e2
  obtain ⟨_, _, rfl, rfl, _, _, rfl, rfl, _, _, rfl, rfl, rfl⟩ := h2
  exact ⟨a :: as, e, .cons h1 ga⟩
noncomputable def hid (Z : List Addr) (H : Hp) : Hp := fun b => if b ∈ Z then none else H b
theorem CU {Z : List Addr} {H : Hp} {b : Addr} {u : HO} (h : H b = some u) (n : b ∉ Z) : hid Z H b = some u := (if_neg n).trans h
noncomputable def CT (Z : List Addr) (H : Hp) : Prop := ∀ z ∈ Z, ∃ xs, H z = some (.lst xs)
theorem CT.out {Z : List Addr} {H : Hp} (h : CT Z H) {b : Addr} (n : H b = none) : b ∉ Z := fun z => by
 obtain ⟨xs, e⟩ := h b z
 rw [n] at e; cases e
theorem CT.tup {Z : List Addr} {H : Hp} (h : CT Z H) {b : Addr} {ys : List V} (n : H b = some (.tup ys)) : b ∉ Z := fun z => by
 obtain ⟨xs, e⟩ := h b z
 rw [n] at e; cases e
mutual
noncomputable def OC : Tr → Prop
 | .i _ => True
 | .s _ => True
 | .l _ => False
 | .t xs => TC xs
noncomputable def TC : List Tr → Prop
 | [] => True
 | x :: xs => OC x ∧ TC xs
end
mutual
theorem Enc.hid {Z : List Addr} {H : Hp} (lz : CT Z H) : ∀ {x : Tr} {v : V}, OC x → Enc H x v → Enc (hid Z H) x v
 | .i _, _, _, h => h
 | .s _, _, _, h => h
 | .l _, _, t, _ => t.elim
 | .t _, _, t, ⟨p, vs, e, h, r⟩ => ⟨p, vs, e, CU h (lz.tup h), Ao.hid lz t r⟩
theorem Ao.hid {Z : List Addr} {H : Hp} (lz : CT Z H) : ∀ {xs : List Tr} {vs : List V}, TC xs → Ao H xs vs → Ao (hid Z H) xs vs
 | [], _, _, h => h
 | _ :: _, _, t, ⟨v, r, e, h1, h2⟩ => ⟨v, r, e, Enc.hid lz t.1 h1, Ao.hid lz t.2 h2⟩
end
theorem tupOL_map {α : Type} {f : α → Tr} (h : ∀ a, OC (f a)) : ∀ xs : List α, TC (xs.map f)
 | [] => trivial
 | a :: xs => ⟨h a, tupOL_map h xs⟩
theorem tupO_T (t : Thr) : OC (trT t) := ⟨trivial, trivial, trivial, trivial, trivial⟩
theorem tupO_G (g : G) : OC (trG g) := ⟨trivial, trivial, trivial, trivial⟩
theorem tupO_R (r : Run) : OC (trR r) := ⟨trivial, trivial, tupO_T _, trivial⟩
theorem Nf.tupO {sg : List G} {x : Tr} (h : Nf sg x) : OC x := by
 rcases h with ⟨t, ok, all, ow, rfl⟩ | ⟨t, n1, f, rfl⟩
 ·exact ⟨trivial, tupO_T t, trivial⟩
 ·exact ⟨trivial, tupOL_map (f := Tr.i) (fun _ => trivial) t, trivial⟩
theorem Jc.tupO {f : Thr → Thr} {sg hg : List G} {x : Tr} (h : Jc f sg hg x) : OC x := by
 rcases h with ⟨t, p, q, ok, all, ed, rfl⟩ | ⟨t, n1, f, rfl⟩
 ·exact ⟨trivial, tupO_T _, trivial, trivial, trivial⟩
 ·exact ⟨trivial, tupOL_map (f := Tr.i) (fun _ => trivial) t, trivial⟩
theorem asc_same {xs ys gs : List G} (h1 : xs.Perm gs) (a1 : Asc xs) (h2 : ys.Perm gs) (a2 : Asc ys) : xs = ys := Bg a1 a2 (h1.trans h2.symm)
theorem AI.hid {Z : List Addr} {H H' : Hp} (s : AI H H') : AI (hid Z H) (hid Z H') := fun b u e => by
 unfold TG.hid at *
 by_cases n : b ∈ Z
 ·rw [if_pos n] at e; cases e
 ·rw [if_neg n] at e ⊢; exact s.get e
theorem hid_upd {Z : List Addr} {H : Hp} {z : Addr} {o : HO} (h : z ∈ Z) : AI (hid Z H) (hid Z (upd H z o)) := fun b u e => by
 unfold TG.hid at *
 by_cases n : b ∈ Z
 ·rw [if_pos n] at e; cases e
 ·rw [if_neg n] at e ⊢; rw [AL (fun q => n (by rw [q]; exact h))]; exact e
theorem A1.hid {Z : List Addr} {T : Addr} {H H' : Hp} (s : A1 T H H') : A1 T (hid Z H) (hid Z H') := fun b u nb e => by
 unfold TG.hid at *
 by_cases n : b ∈ Z
 ·rw [if_pos n] at e; cases e
 ·rw [if_neg n] at e ⊢; exact s b u nb e
theorem Tbl_hid {Z : List Addr} {H : Hp} {P : Addr} {pos : Pos} {qual : Str} (lz : CT Z H) (h : LM.Tbl H P pos qual) : LM.Tbl (hid Z H) P pos qual := by
 rcases h with h | ⟨c, o', u, vs, t, h1, h2, h3⟩
 ·exact .inl (CU h (fun z => by obtain ⟨_, e⟩ := lz _ z; rw [e] at h; cases h))
 ·exact .inr ⟨c, o', u, vs, t, CU h1 (fun z => by obtain ⟨_, e⟩ := lz _ z; rw [e] at h1; cases h1), CU h2 (fun z => by obtain ⟨_, e⟩ := lz _ z; rw [e] at h2; cases h2), h3⟩
theorem hid_le {Z : List Addr} {H : Hp} : AI (hid Z H) H := fun b u e => by
 unfold TG.hid at e
 by_cases n : b ∈ Z
 ·rw [if_pos n] at e; cases e
 ·rwa [if_neg n] at e
theorem hid_sub {Z Z' : List Addr} {H : Hp} (h : ∀ z ∈ Z', z ∈ Z) : AI (hid Z H) (hid Z' H) := fun b u e => by
 unfold TG.hid at *
 by_cases n : b ∈ Z
 ·rw [if_pos n] at e; cases e
 ·rw [if_neg n] at e; rw [if_neg (fun z => n (h b z))]; exact e
theorem CT.same {Z : List Addr} {H H' : Hp} (h : CT Z H) (s : AI H H') : CT Z H' := fun z hz => let ⟨xs, e⟩ := h z hz; ⟨xs, s.get e⟩
theorem CT.sameT {Z : List Addr} {T : Addr} {H H' : Hp} {pos : Pos} {qual : Str} (h : CT Z H) (s : A1 T H H') (tb : LM.Tbl H T pos qual) : CT Z H' := fun z hz => let ⟨xs, e⟩ := h z hz; ⟨xs, s.get tb e (fun _ z => nomatch z)⟩
theorem CT.cons {Z : List Addr} {H : Hp} {D : Addr} {xs : List V} (h : CT Z H) (e : H D = some (.lst xs)) : CT (D :: Z) H := fun z hz => by
 rcases zL.mp hz with rfl | hz
 ·exact ⟨_, e⟩
 ·exact h z hz
theorem picks_sub {gs l : List G} {ps : List Int} (ha : Asc gs) (hl : ∀ g ∈ l, g ∈ gs) (h : ps.Perm (AT l)) : (Cb gs ps).Perm l := by
 have := h.filterMap (Ap gs)
 have e : (AT l).filterMap (Ap gs) = l := by
  have q : ∀ l : List G, (∀ g ∈ l, g ∈ gs) → (AT l).filterMap (Ap gs) = l := fun l => by
   induction l with
   | nil => intro _; rfl
   | cons g l ih =>
    intro h
    show (g.p :: AT l).filterMap (Ap gs) = _
    rw [qD, Hw ha (h g zR)]
    simp only
    rw [ih fun x hx => h x (zD _ hx)]
  exact q l hl
 rw [e] at this
 exact this
inductive AnsP (gs : List G) (xs : List Tr) : Prop where
 | mk (R T E M : List Tr) (hR : (gs.length ≤ 12 ∧ ∃ r, RQ gs r ∧ R = [r]) ∨ (12 < gs.length ∧ R = []))
  (hT : (gs ≠ [] ∧ ∃ t, Nf (gs.take 8) t ∧ T = [t]) ∨ (gs = [] ∧ T = []))
  (hE : (1 < gs.length ∧ ∃ e f, Jc id (gs.take 8) (gs.take 8) e ∧ Jc Mx (gs.take 8) ((gs.take 8).map CD) f ∧ E = [e, f]) ∨ (gs.length ≤ 1 ∧ E = []))
  (hM : (1 ≤ gs.length ∧ gs.length ≤ 6 ∧ ∃ m, Q9 gs m ∧ M = [m]) ∨ (¬ (1 ≤ gs.length ∧ gs.length ≤ 6) ∧ M = [])) (e : xs = R ++ (T ++ (E ++ M)))
theorem take8_ne {gs : List G} (ne : gs ≠ []) : gs.take 8 ≠ [] := fun z => by
 have := congrArg List.length z
 rw [zh, zP] at this
 have := List.length_pos_iff.mpr ne
 lia
theorem AnsP.uniq {gs : List G} {xs ys : List Tr} (ac : Asc gs) (h : AnsP gs xs) (h' : AnsP gs ys) : xs = ys := by
 obtain ⟨R, T, E, M, hR, hT, hE, hM, rfl⟩ := h
 obtain ⟨R', T', E', M', hR', hT', hE', hM', rfl⟩ := h'
 have eR : R = R' := by
  rcases hR with ⟨l, r, a, rfl⟩ | ⟨l, rfl⟩ <;> rcases hR' with ⟨l', r', a', rfl⟩ | ⟨l', rfl⟩
  ·rw [a.uniq ac a']
  ·lia
  ·lia
  ·rfl
 have eT : T = T' := by
  rcases hT with ⟨l, r, a, rfl⟩ | ⟨l, rfl⟩ <;> rcases hT' with ⟨l', r', a', rfl⟩ | ⟨l', rfl⟩
  ·rw [a.uniq (take8_ne l) a']
  ·exact absurd l' l
  ·exact absurd l l'
  ·rfl
 have eE : E = E' := by
  rcases hE with ⟨l, e, f, a, b, rfl⟩ | ⟨l, rfl⟩ <;> rcases hE' with ⟨l', e', f', a', b', rfl⟩ | ⟨l', rfl⟩
  ·rw [a.uniq a', b.uniq b']
  ·lia
  ·lia
  ·rfl
 have eM : M = M' := by
  rcases hM with ⟨l, l2, r, a, rfl⟩ | ⟨l, rfl⟩ <;> rcases hM' with ⟨l', l2', r', a', rfl⟩ | ⟨l', rfl⟩
  ·rw [a.uniq a']
  ·exact absurd ⟨l, l2⟩ l'
  ·exact absurd ⟨l', l2'⟩ l
  ·rfl
 rw [eR, eT, eE, eM]
theorem okL_app {m : Nat} : ∀ {xs ys : List Tr}, Tr.okL m xs → Tr.okL m ys → Tr.okL m (xs ++ ys)
 | [], _, _, h => h
 | _ :: _, _, h, h2 => ⟨h.1, okL_app h.2 h2⟩
theorem AnsP.okd {gs : List G} {xs : List Tr} (h : AnsP gs xs) (hl : gs.length ≤ 1000) : Tr.okL 5 xs ∧ xs.length ≤ 5 := by
 obtain ⟨R, T, E, M, hR, hT, hE, hM, rfl⟩ := h
 have o1 : Tr.okL 5 R ∧ R.length ≤ 1 := by
  rcases hR with ⟨l, r, a, rfl⟩ | ⟨l, rfl⟩
  ·exact ⟨⟨a.okd hl 2, trivial⟩, zG _⟩
  ·exact ⟨trivial, zi _⟩
 have o2 : Tr.okL 5 T ∧ T.length ≤ 1 := by
  rcases hT with ⟨l, r, a, rfl⟩ | ⟨l, rfl⟩
  ·exact ⟨⟨a.okd 3, trivial⟩, zG _⟩
  ·exact ⟨trivial, zi _⟩
 have o3 : Tr.okL 5 E ∧ E.length ≤ 2 := by
  rcases hE with ⟨l, e, f, a, b, rfl⟩ | ⟨l, rfl⟩
  ·exact ⟨⟨a.okd 3, b.okd 3, trivial⟩, zG _⟩
  ·exact ⟨trivial, zi _⟩
 have o4 : Tr.okL 5 M ∧ M.length ≤ 1 := by
  rcases hM with ⟨l, l2, r, a, rfl⟩ | ⟨l, rfl⟩
  ·exact ⟨⟨a.okd hl 3, trivial⟩, zG _⟩
  ·exact ⟨trivial, zi _⟩
 refine ⟨okL_app o1.1 (okL_app o2.1 (okL_app o3.1 o4.1)), ?_⟩
 rw [zC, zC, zC]
 lia
structure AnsQ (gs : List G) (fs : List Int) (x : Tr) : Prop where
 at_ : ∃ xs, AnsP gs xs ∧ x = .l (.l (gs.map trG) :: .l (fs.map Tr.i) :: xs)
theorem AnsQ.uniq {gs : List G} {fs : List Int} {x y : Tr} (ac : Asc gs) (h : AnsQ gs fs x) (h' : AnsQ gs fs y) : x = y := by
 obtain ⟨xs, a, rfl⟩ := h.at_
 obtain ⟨ys, b, rfl⟩ := h'.at_
 rw [a.uniq ac b]
theorem AnsQ.okd {gs : List G} {fs : List Int} {x : Tr} (h : AnsQ gs fs x) (hl : gs.length ≤ 900) (hf : fs.length ≤ 1000) : Tr.ok 6 x := by
 obtain ⟨xs, a, rfl⟩ := h.at_
 obtain ⟨o1, o2⟩ := a.okd (by lia)
 refine ⟨5, rfl, by simp only [zE]; lia, ⟨4, rfl, by rw [z5]; lia, QF (m := 4) (f := trG) (fun g => ⟨3, rfl, by simp, trivial, trivial, trivial, trivial⟩) gs⟩, ⟨4, rfl, by rw [z5]; exact hf, HG 4 fs⟩, o1⟩
theorem A1.hid2 {Z : List Addr} {T A D : Addr} {H H' : Hp} (s : A1 T H H') (n : H D = none) : A1 T (TG.hid (A :: Z) H) (TG.hid (D :: Z) H') := fun b u nb e => by
 unfold TG.hid at *
 by_cases m : b ∈ A :: Z
 ·rw [if_pos m] at e; cases e
 ·rw [if_neg m] at e
  have h1 : b ∉ D :: Z := fun z => by
   rcases zL.mp z with z | z
   ·rw [z, n] at e; cases e
   ·exact m (zD _ z)
  rw [if_neg h1]; exact s b u nb e
theorem AI.hid2 {Z : List Addr} {D : Addr} {H H' : Hp} (s : AI H H') (n : H D = none) : AI (TG.hid Z H) (TG.hid (D :: Z) H') := fun b u e => by
 unfold TG.hid at *
 by_cases m : b ∈ Z
 ·rw [if_pos m] at e; cases e
 ·rw [if_neg m] at e
  have h1 : b ∉ D :: Z := fun z => by
   rcases zL.mp z with z | z
   ·rw [z, n] at e; cases e
   ·exact m z
  rw [if_neg h1]; exact s.get e
theorem LJ.hid {Z : List Addr} {H : Hp} {D : Addr} {gs : List G} {L q : Addr} {t : Thr} {sg : List G} (h : LJ H D gs L q t sg) (lz : CT Z H) (n : L ∉ Z) : LJ (TG.hid Z H) D gs L q t sg :=
 ⟨CU h.eD (lz.tup h.eD), CU h.eL n, CU h.eq (lz.tup h.eq), h.ok, h.hp, h.ha, h.most⟩
end TG
namespace L2
end L2
namespace TG
open PySem L2
noncomputable abbrev GT : Type := Str → Str → Str → Str → Str → Str → Str → Str → Str → Str → Str → Str → Str → Str → Str → Str → Str → Str → Str → Str → Str → Str → Str → Str → Str → Str → Str → Str → Str → Str → Str → Str → Str → Str → Str → Str → Str → Str → Str → Str → Str → Str → Str → Str → Str → Str → Str → Str → Str → Str → Str → Str → Str → Str → Str → Str → Str → Str → Str → Str → Str → Str → Str → Str → Str → Str → Str → Str → Str → Str → Str → Str → Str → Str → Str → Str → Str → Str → Str → Str → Str → Str → Str → Str → Str → Str → Str → Str → Str → Str → Str → Str → Str → Str → Str → Str → Str → Str → Str → Str → Str → Str → Str → Str → Str → Str → Str → Str → Str → Str → Str → Str → Str → Str → Str → Str → Str → Str → Str → Str → Str → Str → Str → Str → Str → Str → Str → Str → Str → Str → Str → Str → Str → Str → Str → Str → Str → Str → Str → Str → Str → Str → Str → Str → Str → Str → Str → Str → Str → Str → Str → Str → Str → Str → Str → Str → Str → Str → Str → Str → Str → Str → Str → Str → Str → Str → Str → Str → Str → Str → Str → Str → Str → Str → Str → Str → Str → Str → Str → Str → Str → Str → Str → Str → Str → Str → Str → Str → Str → Str → Str → Str → Str → Str → Str → Str → Str → Str → Str → Str → Str → Str → Str → Str → Str → Str → Str → Str → Str → Str → Str → Str → Str → Str → Str → Str → Str → Str → Str → Str → Str → Str → Str → Str → Str → Str → Str → Str → Str → Str → Str → Str → Str → Str → Str → Str → Str → Str → Str → Str → Str → Str → Str → Str → Str → Str → Str → Str → Str → Str → Str → Str → Str → Str → Str → Program
noncomputable def EqA (p : Program) (G : GT) : Prop := p = G (.ofString "_law_standing") (.ofString "_law_stands") (.ofString "_law_place") (.ofString "sorted") (.ofString ".0") (.ofString "fast") (.ofString "_law_rows") (.ofString "_law_found") (.ofString "_law_due") (.ofString "isinstance") (.ofString "list") (.ofString "len") (.ofString "_law_k") (.ofString "range") (.ofString "_law_numbers") (.ofString "_law_questions") (.ofString "_law_beach") (.ofString "_law_throw") (.ofString "_law_turned") (.ofString "_law_places") (.ofString "_law_told") (.ofString "gates") (.ofString "passed") (.ofString "append") (.ofString "runs") (.ofString "through") (.ofString "steepest") (.ofString "flattest") (.ofString "most") (.ofString "_law_same") (.ofString "_law_one") (.ofString "_law_two") (.ofString "_law_deep") (.ofString "tuple") (.ofString "bool") (.ofString "int") (.ofString "str") (.ofString "law") (.ofString "_law_script") (.ofString "Beach") (.ofString "_law_past") (.ofString "_law_laid") (.ofString "_law_cell") (.ofString "_law_at") (.ofString "_law_early") (.ofString "_law_kept_here") (.ofString "_law_before") (.ofString "_law_step") (.ofString "_law_deed") (.ofString "_law_deed_here") (.ofString "_law_refusal") (.ofString "_law_gate") (.ofString "_law_would") (.ofString "_law_good") (.ofString "_law_done") (.ofString "") (.ofString "_law_kept") (.ofString "back") (.ofString "_law_whole") (.ofString "_law_how") (.ofString "_law_spread") (.ofString "_law_most") (.ofString "_law_how_here") (.ofString "_law_many") (.ofString "_law_foot") (.ofString "_law_head") (.ofString "_law_gates") (.ofString "put") (.ofString "_law_count") (.ofString "lift") (.ofString "_law_menu") (.ofString "_law_draw") (.ofString "_law_mixed") (.ofString "_law_row") (.ofString "_law_word") (.ofString "sink") (.ofString "take") (.ofString "_law_pool") (.ofString "_law_kind") (.ofString "_law_line") (.ofString "_law_any_two") (.ofString "get") (.ofString "out of bounds") (.ofString "nothing back") (.ofString "taken") (.ofString "no gate") (.ofString "upside down") (.ofString "max") (.ofString "abs") (.ofString "beach full") (.ofString "deeds full") (.ofString "NoGate") (.ofString "Taken") (.ofString "UpsideDown") (.ofString "OutOfBounds") (.ofString "BeachFull") (.ofString "DeedsFull") (.ofString "NothingBack") (.ofString "clear") (.ofString "update") (.ofString "pop") (.ofString "dict") (.ofString "_law_left") (.ofString "_law_once") (.ofString "_law_heights") (.ofString "_law_wide") (.ofString "_law_low") (.ofString "_law_high") (.ofString "_law_under") (.ofString "_law_over") (.ofString "_law_at_here") (.ofString "_law_lows") (.ofString "_law_highs") (.ofString "_law_span") (.ofString "_law_near") (.ofString "_law_ends") (.ofString "_law_made") (.ofString "_law_used") (.ofString "_law_step_here") (.ofString "min") (.ofString "check_gate") (.ofString "gate") (.ofString "the foot would be above the head") (.ofString "number") (.ofString "LEAST") (.ofString "GREATEST") (.ofString "a place, foot or head would be out of bounds") (.ofString "check_places") (.ofString "places") (.ofString "BadList") (.ofString "the list has no place") (.ofString "MOST_GATES") (.ofString "the list has too many places") (.ofString "set") (.ofString "the list has a place twice") (.ofString "check_throw") (.ofString "throw") (.ofString "BadThrow") (.ofString "a bottom is below 1") (.ofString "GREAT_NUMBER") (.ofString "a number of the throw is too great") (.ofString "__init__") (.ofString "self") (.ofString "standing") (.ofString "past") (.ofString "has_gate") (.ofString "place") (.ofString "gate_at") (.ofString "no gate stands at this place") (.ofString "do_deed") (.ofString "instead") (.ofString "MOST_DEEDS") (.ofString "no more deeds may stand") (.ofString "others") (.ofString "foot") (.ofString "head") (.ofString "a gate stands at this place already") (.ofString "no more gates may stand") (.ofString "foot_by") (.ofString "head_by") (.ofString "before") (.ofString "many") (.ofString "one deed is the least that is taken back") (.ofString "fewer deeds stand") (.ofString "left") (.ofString "deeds") (.ofString "gates_at") (.ofString "two_gates_at") (.ofString "TooFew") (.ofString "one gate alone has no steepest and no flattest throw") (.ofString "throw_through") (.ofString "steepest_throw") (.ofString "flattest_throw") (.ofString "fewest_runs") (.ofString "SMALL_BEACH") (.ofString "WrongSize") (.ofString "the most are told of a small beach that is not empty") (.ofString "most_gates") (.ofString "places_passed") (.ofString "__name__") (.ofString "law_throwgate_k43_whole_taken_back") (.ofString "run") (.ofString "longer") (.ofString "longer_throw") (.ofString "common_throw") (.ofString "run_told") (.ofString "throwgate.small") (.ofString "tried_throws") (.ofString "ordered") (.ofString "throws") (.ofString "index") (.ofString "earlier") (.ofString "enumerate") (.ofString "later") (.ofString "line_by") (.ofString "tried") (.ofString "key") (.ofString "told") (.ofString "throwgate.beach") (.ofString "turned_over") (.ofString "turned_throw") (.ofString "found") (.ofString "steepest_found") (.ofString "bar_told") (.ofString "throwgate.shore") (.ofString "level_throw") (.ofString "bar") (.ofString "first_three") (.ofString "passes") (.ofString "foot_to_head") (.ofString "tightest_pair") (.ofString "pair") (.ofString "compare") (.ofString "foot_place") (.ofString "head_place") (.ofString "passes_all") (.ofString "height") (.ofString "height_at") (.ofString "height_top") (.ofString "height_bottom") (.ofString "rise_top") (.ofString "rise_bottom") (.ofString "top") (.ofString "lowest") (.ofString "other") (.ofString "second") (.ofString "steps") (.ofString "gain") (.ofString "start") (.ofString "rise") (.ofString "throwgate.lists") (.ofString "all") (.ofString "throwgate.fracs") (.ofString "greatest_divisor") (.ofString "one") (.ofString "two") (.ofString "divisor") (.ofString "rest") (.ofString "next_rest") (.ofString "bottom") (.ofString "right") (.ofString "throwgate.lines") (.ofString "throwgate.bars") (.ofString "side_of_line") (.ofString "end") (.ofString "barring") (.ofString "three") (.ofString "count") (.ofString "first") (.ofString "middle") (.ofString "last") (.ofString "BeachError") (.ofString "throwgate.errors") (.ofString "ValueError") (.ofString "/claim/cut.py")
noncomputable def Gp : GT := by
 refine' (?m : _ → GT) (?h : EqA PySem.Challenge.pw_throwgate_k43_whole_taken_back ?G)
 case h =>
  delta EqA PySem.Challenge.pw_throwgate_k43_whole_taken_back
  iterate 255 (generalize Str.ofString _ = x)
  exact rfl
 case m => exact fun _ => ?G
theorem Gq : EqA PySem.Challenge.pw_throwgate_k43_whole_taken_back Gp := by delta EqA; kernel_rfl
theorem at_0 : Str.ofString "_law_standing" = Str.mk (.mk [95, 108, 97, 119, 95, 115, 116, 97, 110, 100, 105, 110, 103]) := by kernel_rfl
theorem at_1 : Str.ofString "_law_stands" = Str.mk (.mk [95, 108, 97, 119, 95, 115, 116, 97, 110, 100, 115]) := by kernel_rfl
theorem at_2 : Str.ofString "_law_place" = Str.mk (.mk [95, 108, 97, 119, 95, 112, 108, 97, 99, 101]) := by kernel_rfl
theorem at_3 : Str.ofString "sorted" = Str.mk (.mk [115, 111, 114, 116, 101, 100]) := by kernel_rfl
theorem at_4 : Str.ofString ".0" = Str.mk (.mk [46, 48]) := by kernel_rfl
theorem at_5 : Str.ofString "fast" = Str.mk (.mk [102, 97, 115, 116]) := by kernel_rfl
theorem at_6 : Str.ofString "_law_rows" = Str.mk (.mk [95, 108, 97, 119, 95, 114, 111, 119, 115]) := by kernel_rfl
theorem at_7 : Str.ofString "_law_found" = Str.mk (.mk [95, 108, 97, 119, 95, 102, 111, 117, 110, 100]) := by kernel_rfl
theorem at_8 : Str.ofString "_law_due" = Str.mk (.mk [95, 108, 97, 119, 95, 100, 117, 101]) := by kernel_rfl
theorem at_9 : Str.ofString "isinstance" = Str.mk (.mk [105, 115, 105, 110, 115, 116, 97, 110, 99, 101]) := by kernel_rfl
theorem at_10 : Str.ofString "list" = Str.mk (.mk [108, 105, 115, 116]) := by kernel_rfl
theorem at_11 : Str.ofString "len" = Str.mk (.mk [108, 101, 110]) := by kernel_rfl
theorem at_12 : Str.ofString "_law_k" = Str.mk (.mk [95, 108, 97, 119, 95, 107]) := by kernel_rfl
theorem at_13 : Str.ofString "range" = Str.mk (.mk [114, 97, 110, 103, 101]) := by kernel_rfl
theorem at_14 : Str.ofString "_law_numbers" = Str.mk (.mk [95, 108, 97, 119, 95, 110, 117, 109, 98, 101, 114, 115]) := by kernel_rfl
theorem at_15 : Str.ofString "_law_questions" = Str.mk (.mk [95, 108, 97, 119, 95, 113, 117, 101, 115, 116, 105, 111, 110, 115]) := by kernel_rfl
theorem at_16 : Str.ofString "_law_beach" = Str.mk (.mk [95, 108, 97, 119, 95, 98, 101, 97, 99, 104]) := by kernel_rfl
theorem at_17 : Str.ofString "_law_throw" = Str.mk (.mk [95, 108, 97, 119, 95, 116, 104, 114, 111, 119]) := by kernel_rfl
theorem at_18 : Str.ofString "_law_turned" = Str.mk (.mk [95, 108, 97, 119, 95, 116, 117, 114, 110, 101, 100]) := by kernel_rfl
theorem at_19 : Str.ofString "_law_places" = Str.mk (.mk [95, 108, 97, 119, 95, 112, 108, 97, 99, 101, 115]) := by kernel_rfl
theorem at_20 : Str.ofString "_law_told" = Str.mk (.mk [95, 108, 97, 119, 95, 116, 111, 108, 100]) := by kernel_rfl
theorem at_21 : Str.ofString "gates" = Str.mk (.mk [103, 97, 116, 101, 115]) := by kernel_rfl
theorem at_22 : Str.ofString "passed" = Str.mk (.mk [112, 97, 115, 115, 101, 100]) := by kernel_rfl
theorem at_23 : Str.ofString "append" = Str.mk (.mk [97, 112, 112, 101, 110, 100]) := by kernel_rfl
theorem at_24 : Str.ofString "runs" = Str.mk (.mk [114, 117, 110, 115]) := by kernel_rfl
theorem at_25 : Str.ofString "through" = Str.mk (.mk [116, 104, 114, 111, 117, 103, 104]) := by kernel_rfl
theorem at_26 : Str.ofString "steepest" = Str.mk (.mk [115, 116, 101, 101, 112, 101, 115, 116]) := by kernel_rfl
theorem at_27 : Str.ofString "flattest" = Str.mk (.mk [102, 108, 97, 116, 116, 101, 115, 116]) := by kernel_rfl
theorem at_28 : Str.ofString "most" = Str.mk (.mk [109, 111, 115, 116]) := by kernel_rfl
theorem at_29 : Str.ofString "_law_same" = Str.mk (.mk [95, 108, 97, 119, 95, 115, 97, 109, 101]) := by kernel_rfl
theorem at_30 : Str.ofString "_law_one" = Str.mk (.mk [95, 108, 97, 119, 95, 111, 110, 101]) := by kernel_rfl
theorem at_31 : Str.ofString "_law_two" = Str.mk (.mk [95, 108, 97, 119, 95, 116, 119, 111]) := by kernel_rfl
theorem at_32 : Str.ofString "_law_deep" = Str.mk (.mk [95, 108, 97, 119, 95, 100, 101, 101, 112]) := by kernel_rfl
theorem at_33 : Str.ofString "tuple" = Str.mk (.mk [116, 117, 112, 108, 101]) := by kernel_rfl
theorem at_34 : Str.ofString "bool" = Str.mk (.mk [98, 111, 111, 108]) := by kernel_rfl
theorem at_35 : Str.ofString "int" = Str.mk (.mk [105, 110, 116]) := by kernel_rfl
theorem at_36 : Str.ofString "str" = Str.mk (.mk [115, 116, 114]) := by kernel_rfl
theorem at_37 : Str.ofString "law" = Str.mk (.mk [108, 97, 119]) := by kernel_rfl
theorem at_38 : Str.ofString "_law_script" = Str.mk (.mk [95, 108, 97, 119, 95, 115, 99, 114, 105, 112, 116]) := by kernel_rfl
theorem at_39 : Str.ofString "Beach" = Str.mk (.mk [66, 101, 97, 99, 104]) := by kernel_rfl
theorem at_40 : Str.ofString "_law_past" = Str.mk (.mk [95, 108, 97, 119, 95, 112, 97, 115, 116]) := by kernel_rfl
theorem at_41 : Str.ofString "_law_laid" = Str.mk (.mk [95, 108, 97, 119, 95, 108, 97, 105, 100]) := by kernel_rfl
theorem at_42 : Str.ofString "_law_cell" = Str.mk (.mk [95, 108, 97, 119, 95, 99, 101, 108, 108]) := by kernel_rfl
theorem at_43 : Str.ofString "_law_at" = Str.mk (.mk [95, 108, 97, 119, 95, 97, 116]) := by kernel_rfl
theorem at_44 : Str.ofString "_law_early" = Str.mk (.mk [95, 108, 97, 119, 95, 101, 97, 114, 108, 121]) := by kernel_rfl
theorem at_45 : Str.ofString "_law_kept_here" = Str.mk (.mk [95, 108, 97, 119, 95, 107, 101, 112, 116, 95, 104, 101, 114, 101]) := by kernel_rfl
theorem at_46 : Str.ofString "_law_before" = Str.mk (.mk [95, 108, 97, 119, 95, 98, 101, 102, 111, 114, 101]) := by kernel_rfl
theorem at_47 : Str.ofString "_law_step" = Str.mk (.mk [95, 108, 97, 119, 95, 115, 116, 101, 112]) := by kernel_rfl
theorem at_48 : Str.ofString "_law_deed" = Str.mk (.mk [95, 108, 97, 119, 95, 100, 101, 101, 100]) := by kernel_rfl
theorem at_49 : Str.ofString "_law_deed_here" = Str.mk (.mk [95, 108, 97, 119, 95, 100, 101, 101, 100, 95, 104, 101, 114, 101]) := by kernel_rfl
theorem at_50 : Str.ofString "_law_refusal" = Str.mk (.mk [95, 108, 97, 119, 95, 114, 101, 102, 117, 115, 97, 108]) := by kernel_rfl
theorem at_51 : Str.ofString "_law_gate" = Str.mk (.mk [95, 108, 97, 119, 95, 103, 97, 116, 101]) := by kernel_rfl
theorem at_52 : Str.ofString "_law_would" = Str.mk (.mk [95, 108, 97, 119, 95, 119, 111, 117, 108, 100]) := by kernel_rfl
theorem at_53 : Str.ofString "_law_good" = Str.mk (.mk [95, 108, 97, 119, 95, 103, 111, 111, 100]) := by kernel_rfl
theorem at_54 : Str.ofString "_law_done" = Str.mk (.mk [95, 108, 97, 119, 95, 100, 111, 110, 101]) := by kernel_rfl
theorem at_55 : Str.ofString "" = Str.mk (.mk []) := by kernel_rfl
theorem at_56 : Str.ofString "_law_kept" = Str.mk (.mk [95, 108, 97, 119, 95, 107, 101, 112, 116]) := by kernel_rfl
theorem at_57 : Str.ofString "back" = Str.mk (.mk [98, 97, 99, 107]) := by kernel_rfl
theorem at_58 : Str.ofString "_law_whole" = Str.mk (.mk [95, 108, 97, 119, 95, 119, 104, 111, 108, 101]) := by kernel_rfl
theorem at_59 : Str.ofString "_law_how" = Str.mk (.mk [95, 108, 97, 119, 95, 104, 111, 119]) := by kernel_rfl
theorem at_60 : Str.ofString "_law_spread" = Str.mk (.mk [95, 108, 97, 119, 95, 115, 112, 114, 101, 97, 100]) := by kernel_rfl
theorem at_61 : Str.ofString "_law_most" = Str.mk (.mk [95, 108, 97, 119, 95, 109, 111, 115, 116]) := by kernel_rfl
theorem at_62 : Str.ofString "_law_how_here" = Str.mk (.mk [95, 108, 97, 119, 95, 104, 111, 119, 95, 104, 101, 114, 101]) := by kernel_rfl
theorem at_63 : Str.ofString "_law_many" = Str.mk (.mk [95, 108, 97, 119, 95, 109, 97, 110, 121]) := by kernel_rfl
theorem at_64 : Str.ofString "_law_foot" = Str.mk (.mk [95, 108, 97, 119, 95, 102, 111, 111, 116]) := by kernel_rfl
theorem at_65 : Str.ofString "_law_head" = Str.mk (.mk [95, 108, 97, 119, 95, 104, 101, 97, 100]) := by kernel_rfl
theorem at_66 : Str.ofString "_law_gates" = Str.mk (.mk [95, 108, 97, 119, 95, 103, 97, 116, 101, 115]) := by kernel_rfl
theorem at_67 : Str.ofString "put" = Str.mk (.mk [112, 117, 116]) := by kernel_rfl
theorem at_68 : Str.ofString "_law_count" = Str.mk (.mk [95, 108, 97, 119, 95, 99, 111, 117, 110, 116]) := by kernel_rfl
theorem at_69 : Str.ofString "lift" = Str.mk (.mk [108, 105, 102, 116]) := by kernel_rfl
theorem at_70 : Str.ofString "_law_menu" = Str.mk (.mk [95, 108, 97, 119, 95, 109, 101, 110, 117]) := by kernel_rfl
theorem at_71 : Str.ofString "_law_draw" = Str.mk (.mk [95, 108, 97, 119, 95, 100, 114, 97, 119]) := by kernel_rfl
theorem at_72 : Str.ofString "_law_mixed" = Str.mk (.mk [95, 108, 97, 119, 95, 109, 105, 120, 101, 100]) := by kernel_rfl
theorem at_73 : Str.ofString "_law_row" = Str.mk (.mk [95, 108, 97, 119, 95, 114, 111, 119]) := by kernel_rfl
theorem at_74 : Str.ofString "_law_word" = Str.mk (.mk [95, 108, 97, 119, 95, 119, 111, 114, 100]) := by kernel_rfl
theorem at_75 : Str.ofString "sink" = Str.mk (.mk [115, 105, 110, 107]) := by kernel_rfl
theorem at_76 : Str.ofString "take" = Str.mk (.mk [116, 97, 107, 101]) := by kernel_rfl
theorem at_77 : Str.ofString "_law_pool" = Str.mk (.mk [95, 108, 97, 119, 95, 112, 111, 111, 108]) := by kernel_rfl
theorem at_78 : Str.ofString "_law_kind" = Str.mk (.mk [95, 108, 97, 119, 95, 107, 105, 110, 100]) := by kernel_rfl
theorem at_79 : Str.ofString "_law_line" = Str.mk (.mk [95, 108, 97, 119, 95, 108, 105, 110, 101]) := by kernel_rfl
theorem at_80 : Str.ofString "_law_any_two" = Str.mk (.mk [95, 108, 97, 119, 95, 97, 110, 121, 95, 116, 119, 111]) := by kernel_rfl
theorem at_81 : Str.ofString "get" = Str.mk (.mk [103, 101, 116]) := by kernel_rfl
theorem at_82 : Str.ofString "out of bounds" = Str.mk (.mk [111, 117, 116, 32, 111, 102, 32, 98, 111, 117, 110, 100, 115]) := by kernel_rfl
theorem at_83 : Str.ofString "nothing back" = Str.mk (.mk [110, 111, 116, 104, 105, 110, 103, 32, 98, 97, 99, 107]) := by kernel_rfl
theorem at_84 : Str.ofString "taken" = Str.mk (.mk [116, 97, 107, 101, 110]) := by kernel_rfl
theorem at_85 : Str.ofString "no gate" = Str.mk (.mk [110, 111, 32, 103, 97, 116, 101]) := by kernel_rfl
theorem at_86 : Str.ofString "upside down" = Str.mk (.mk [117, 112, 115, 105, 100, 101, 32, 100, 111, 119, 110]) := by kernel_rfl
theorem at_87 : Str.ofString "max" = Str.mk (.mk [109, 97, 120]) := by kernel_rfl
theorem at_88 : Str.ofString "abs" = Str.mk (.mk [97, 98, 115]) := by kernel_rfl
theorem at_89 : Str.ofString "beach full" = Str.mk (.mk [98, 101, 97, 99, 104, 32, 102, 117, 108, 108]) := by kernel_rfl
theorem at_90 : Str.ofString "deeds full" = Str.mk (.mk [100, 101, 101, 100, 115, 32, 102, 117, 108, 108]) := by kernel_rfl
theorem at_91 : Str.ofString "NoGate" = Str.mk (.mk [78, 111, 71, 97, 116, 101]) := by kernel_rfl
theorem at_92 : Str.ofString "Taken" = Str.mk (.mk [84, 97, 107, 101, 110]) := by kernel_rfl
theorem at_93 : Str.ofString "UpsideDown" = Str.mk (.mk [85, 112, 115, 105, 100, 101, 68, 111, 119, 110]) := by kernel_rfl
theorem at_94 : Str.ofString "OutOfBounds" = Str.mk (.mk [79, 117, 116, 79, 102, 66, 111, 117, 110, 100, 115]) := by kernel_rfl
theorem at_95 : Str.ofString "BeachFull" = Str.mk (.mk [66, 101, 97, 99, 104, 70, 117, 108, 108]) := by kernel_rfl
theorem at_96 : Str.ofString "DeedsFull" = Str.mk (.mk [68, 101, 101, 100, 115, 70, 117, 108, 108]) := by kernel_rfl
theorem at_97 : Str.ofString "NothingBack" = Str.mk (.mk [78, 111, 116, 104, 105, 110, 103, 66, 97, 99, 107]) := by kernel_rfl
theorem at_98 : Str.ofString "clear" = Str.mk (.mk [99, 108, 101, 97, 114]) := by kernel_rfl
theorem at_99 : Str.ofString "update" = Str.mk (.mk [117, 112, 100, 97, 116, 101]) := by kernel_rfl
theorem Xp : Str.ofString "pop" = Str.mk (.mk [112, 111, 112]) := by kernel_rfl
theorem YK : Str.ofString "dict" = Str.mk (.mk [100, 105, 99, 116]) := by kernel_rfl
theorem Zw : Str.ofString "_law_left" = Str.mk (.mk [95, 108, 97, 119, 95, 108, 101, 102, 116]) := by kernel_rfl
theorem ZY : Str.ofString "_law_once" = Str.mk (.mk [95, 108, 97, 119, 95, 111, 110, 99, 101]) := by kernel_rfl
theorem Zc : Str.ofString "_law_heights" = Str.mk (.mk [95, 108, 97, 119, 95, 104, 101, 105, 103, 104, 116, 115]) := by kernel_rfl
theorem Yp : Str.ofString "_law_wide" = Str.mk (.mk [95, 108, 97, 119, 95, 119, 105, 100, 101]) := by kernel_rfl
theorem ZE : Str.ofString "_law_low" = Str.mk (.mk [95, 108, 97, 119, 95, 108, 111, 119]) := by kernel_rfl
theorem Xr : Str.ofString "_law_high" = Str.mk (.mk [95, 108, 97, 119, 95, 104, 105, 103, 104]) := by kernel_rfl
theorem XZ : Str.ofString "_law_under" = Str.mk (.mk [95, 108, 97, 119, 95, 117, 110, 100, 101, 114]) := by kernel_rfl
theorem YX : Str.ofString "_law_over" = Str.mk (.mk [95, 108, 97, 119, 95, 111, 118, 101, 114]) := by kernel_rfl
theorem ah : Str.ofString "_law_at_here" = Str.mk (.mk [95, 108, 97, 119, 95, 97, 116, 95, 104, 101, 114, 101]) := by kernel_rfl
theorem YB : Str.ofString "_law_lows" = Str.mk (.mk [95, 108, 97, 119, 95, 108, 111, 119, 115]) := by kernel_rfl
theorem ZV : Str.ofString "_law_highs" = Str.mk (.mk [95, 108, 97, 119, 95, 104, 105, 103, 104, 115]) := by kernel_rfl
theorem Xf : Str.ofString "_law_span" = Str.mk (.mk [95, 108, 97, 119, 95, 115, 112, 97, 110]) := by kernel_rfl
theorem Y8 : Str.ofString "_law_near" = Str.mk (.mk [95, 108, 97, 119, 95, 110, 101, 97, 114]) := by kernel_rfl
theorem Yh : Str.ofString "_law_ends" = Str.mk (.mk [95, 108, 97, 119, 95, 101, 110, 100, 115]) := by kernel_rfl
theorem Zb : Str.ofString "_law_made" = Str.mk (.mk [95, 108, 97, 119, 95, 109, 97, 100, 101]) := by kernel_rfl
theorem Z6 : Str.ofString "_law_used" = Str.mk (.mk [95, 108, 97, 119, 95, 117, 115, 101, 100]) := by kernel_rfl
theorem YU : Str.ofString "_law_step_here" = Str.mk (.mk [95, 108, 97, 119, 95, 115, 116, 101, 112, 95, 104, 101, 114, 101]) := by kernel_rfl
theorem Xg : Str.ofString "min" = Str.mk (.mk [109, 105, 110]) := by kernel_rfl
theorem Yt : Str.ofString "check_gate" = Str.mk (.mk [99, 104, 101, 99, 107, 95, 103, 97, 116, 101]) := by kernel_rfl
theorem Z7 : Str.ofString "gate" = Str.mk (.mk [103, 97, 116, 101]) := by kernel_rfl
theorem aw : Str.ofString "the foot would be above the head" = Str.mk (.mk [116, 104, 101, 32, 102, 111, 111, 116, 32, 119, 111, 117, 108, 100, 32, 98, 101, 32, 97, 98, 111, 118, 101, 32, 116, 104, 101, 32, 104, 101, 97, 100]) := by kernel_rfl
theorem ZC : Str.ofString "number" = Str.mk (.mk [110, 117, 109, 98, 101, 114]) := by kernel_rfl
theorem Xl : Str.ofString "LEAST" = Str.mk (.mk [76, 69, 65, 83, 84]) := by kernel_rfl
theorem Yc : Str.ofString "GREATEST" = Str.mk (.mk [71, 82, 69, 65, 84, 69, 83, 84]) := by kernel_rfl
theorem Zl : Str.ofString "a place, foot or head would be out of bounds" = Str.mk (.mk [97, 32, 112, 108, 97, 99, 101, 44, 32, 102, 111, 111, 116, 32, 111, 114, 32, 104, 101, 97, 100, 32, 119, 111, 117, 108, 100, 32, 98, 101, 32, 111, 117, 116, 32, 111, 102, 32, 98, 111, 117, 110, 100, 115]) := by kernel_rfl
theorem Zs : Str.ofString "check_places" = Str.mk (.mk [99, 104, 101, 99, 107, 95, 112, 108, 97, 99, 101, 115]) := by kernel_rfl
theorem X9 : Str.ofString "places" = Str.mk (.mk [112, 108, 97, 99, 101, 115]) := by kernel_rfl
theorem X4 : Str.ofString "BadList" = Str.mk (.mk [66, 97, 100, 76, 105, 115, 116]) := by kernel_rfl
theorem Yr : Str.ofString "the list has no place" = Str.mk (.mk [116, 104, 101, 32, 108, 105, 115, 116, 32, 104, 97, 115, 32, 110, 111, 32, 112, 108, 97, 99, 101]) := by kernel_rfl
theorem YE : Str.ofString "MOST_GATES" = Str.mk (.mk [77, 79, 83, 84, 95, 71, 65, 84, 69, 83]) := by kernel_rfl
theorem ak : Str.ofString "the list has too many places" = Str.mk (.mk [116, 104, 101, 32, 108, 105, 115, 116, 32, 104, 97, 115, 32, 116, 111, 111, 32, 109, 97, 110, 121, 32, 112, 108, 97, 99, 101, 115]) := by kernel_rfl
theorem Xy : Str.ofString "set" = Str.mk (.mk [115, 101, 116]) := by kernel_rfl
theorem ae : Str.ofString "the list has a place twice" = Str.mk (.mk [116, 104, 101, 32, 108, 105, 115, 116, 32, 104, 97, 115, 32, 97, 32, 112, 108, 97, 99, 101, 32, 116, 119, 105, 99, 101]) := by kernel_rfl
theorem Yn : Str.ofString "check_throw" = Str.mk (.mk [99, 104, 101, 99, 107, 95, 116, 104, 114, 111, 119]) := by kernel_rfl
theorem Z4 : Str.ofString "throw" = Str.mk (.mk [116, 104, 114, 111, 119]) := by kernel_rfl
theorem Zm : Str.ofString "BadThrow" = Str.mk (.mk [66, 97, 100, 84, 104, 114, 111, 119]) := by kernel_rfl
theorem Xu : Str.ofString "a bottom is below 1" = Str.mk (.mk [97, 32, 98, 111, 116, 116, 111, 109, 32, 105, 115, 32, 98, 101, 108, 111, 119, 32, 49]) := by kernel_rfl
theorem aN : Str.ofString "GREAT_NUMBER" = Str.mk (.mk [71, 82, 69, 65, 84, 95, 78, 85, 77, 66, 69, 82]) := by kernel_rfl
theorem Xk : Str.ofString "a number of the throw is too great" = Str.mk (.mk [97, 32, 110, 117, 109, 98, 101, 114, 32, 111, 102, 32, 116, 104, 101, 32, 116, 104, 114, 111, 119, 32, 105, 115, 32, 116, 111, 111, 32, 103, 114, 101, 97, 116]) := by kernel_rfl
theorem Zx : Str.ofString "__init__" = Str.mk (.mk [95, 95, 105, 110, 105, 116, 95, 95]) := by kernel_rfl
theorem XY : Str.ofString "self" = Str.mk (.mk [115, 101, 108, 102]) := by kernel_rfl
theorem ZN : Str.ofString "standing" = Str.mk (.mk [115, 116, 97, 110, 100, 105, 110, 103]) := by kernel_rfl
theorem Xj : Str.ofString "past" = Str.mk (.mk [112, 97, 115, 116]) := by kernel_rfl
theorem Zz : Str.ofString "has_gate" = Str.mk (.mk [104, 97, 115, 95, 103, 97, 116, 101]) := by kernel_rfl
theorem Xm : Str.ofString "place" = Str.mk (.mk [112, 108, 97, 99, 101]) := by kernel_rfl
theorem Y6 : Str.ofString "gate_at" = Str.mk (.mk [103, 97, 116, 101, 95, 97, 116]) := by kernel_rfl
theorem aT : Str.ofString "no gate stands at this place" = Str.mk (.mk [110, 111, 32, 103, 97, 116, 101, 32, 115, 116, 97, 110, 100, 115, 32, 97, 116, 32, 116, 104, 105, 115, 32, 112, 108, 97, 99, 101]) := by kernel_rfl
theorem YN : Str.ofString "do_deed" = Str.mk (.mk [100, 111, 95, 100, 101, 101, 100]) := by kernel_rfl
theorem YZ : Str.ofString "instead" = Str.mk (.mk [105, 110, 115, 116, 101, 97, 100]) := by kernel_rfl
theorem Yb : Str.ofString "MOST_DEEDS" = Str.mk (.mk [77, 79, 83, 84, 95, 68, 69, 69, 68, 83]) := by kernel_rfl
theorem ZK : Str.ofString "no more deeds may stand" = Str.mk (.mk [110, 111, 32, 109, 111, 114, 101, 32, 100, 101, 101, 100, 115, 32, 109, 97, 121, 32, 115, 116, 97, 110, 100]) := by kernel_rfl
theorem aU : Str.ofString "others" = Str.mk (.mk [111, 116, 104, 101, 114, 115]) := by kernel_rfl
theorem ZB : Str.ofString "foot" = Str.mk (.mk [102, 111, 111, 116]) := by kernel_rfl
theorem X8 : Str.ofString "head" = Str.mk (.mk [104, 101, 97, 100]) := by kernel_rfl
theorem ZS : Str.ofString "a gate stands at this place already" = Str.mk (.mk [97, 32, 103, 97, 116, 101, 32, 115, 116, 97, 110, 100, 115, 32, 97, 116, 32, 116, 104, 105, 115, 32, 112, 108, 97, 99, 101, 32, 97, 108, 114, 101, 97, 100, 121]) := by kernel_rfl
theorem YT : Str.ofString "no more gates may stand" = Str.mk (.mk [110, 111, 32, 109, 111, 114, 101, 32, 103, 97, 116, 101, 115, 32, 109, 97, 121, 32, 115, 116, 97, 110, 100]) := by kernel_rfl
theorem Y4 : Str.ofString "foot_by" = Str.mk (.mk [102, 111, 111, 116, 95, 98, 121]) := by kernel_rfl
theorem XO : Str.ofString "head_by" = Str.mk (.mk [104, 101, 97, 100, 95, 98, 121]) := by kernel_rfl
theorem ZI : Str.ofString "before" = Str.mk (.mk [98, 101, 102, 111, 114, 101]) := by kernel_rfl
theorem YG : Str.ofString "many" = Str.mk (.mk [109, 97, 110, 121]) := by kernel_rfl
theorem ZO : Str.ofString "one deed is the least that is taken back" = Str.mk (.mk [111, 110, 101, 32, 100, 101, 101, 100, 32, 105, 115, 32, 116, 104, 101, 32, 108, 101, 97, 115, 116, 32, 116, 104, 97, 116, 32, 105, 115, 32, 116, 97, 107, 101, 110, 32, 98, 97, 99, 107]) := by kernel_rfl
theorem Zh : Str.ofString "fewer deeds stand" = Str.mk (.mk [102, 101, 119, 101, 114, 32, 100, 101, 101, 100, 115, 32, 115, 116, 97, 110, 100]) := by kernel_rfl
theorem Xc : Str.ofString "left" = Str.mk (.mk [108, 101, 102, 116]) := by kernel_rfl
theorem ZU : Str.ofString "deeds" = Str.mk (.mk [100, 101, 101, 100, 115]) := by kernel_rfl
theorem Yk : Str.ofString "gates_at" = Str.mk (.mk [103, 97, 116, 101, 115, 95, 97, 116]) := by kernel_rfl
theorem Yj : Str.ofString "two_gates_at" = Str.mk (.mk [116, 119, 111, 95, 103, 97, 116, 101, 115, 95, 97, 116]) := by kernel_rfl
theorem bB : Str.ofString "TooFew" = Str.mk (.mk [84, 111, 111, 70, 101, 119]) := by kernel_rfl
theorem Yy : Str.ofString "one gate alone has no steepest and no flattest throw" = Str.mk (.mk [111, 110, 101, 32, 103, 97, 116, 101, 32, 97, 108, 111, 110, 101, 32, 104, 97, 115, 32, 110, 111, 32, 115, 116, 101, 101, 112, 101, 115, 116, 32, 97, 110, 100, 32, 110, 111, 32, 102, 108, 97, 116, 116, 101, 115, 116, 32, 116, 104, 114, 111, 119]) := by kernel_rfl
theorem am : Str.ofString "throw_through" = Str.mk (.mk [116, 104, 114, 111, 119, 95, 116, 104, 114, 111, 117, 103, 104]) := by kernel_rfl
theorem Xi : Str.ofString "steepest_throw" = Str.mk (.mk [115, 116, 101, 101, 112, 101, 115, 116, 95, 116, 104, 114, 111, 119]) := by kernel_rfl
theorem Z3 : Str.ofString "flattest_throw" = Str.mk (.mk [102, 108, 97, 116, 116, 101, 115, 116, 95, 116, 104, 114, 111, 119]) := by kernel_rfl
theorem Yq : Str.ofString "fewest_runs" = Str.mk (.mk [102, 101, 119, 101, 115, 116, 95, 114, 117, 110, 115]) := by kernel_rfl
theorem aO : Str.ofString "SMALL_BEACH" = Str.mk (.mk [83, 77, 65, 76, 76, 95, 66, 69, 65, 67, 72]) := by kernel_rfl
theorem ZR : Str.ofString "WrongSize" = Str.mk (.mk [87, 114, 111, 110, 103, 83, 105, 122, 101]) := by kernel_rfl
theorem Za : Str.ofString "the most are told of a small beach that is not empty" = Str.mk (.mk [116, 104, 101, 32, 109, 111, 115, 116, 32, 97, 114, 101, 32, 116, 111, 108, 100, 32, 111, 102, 32, 97, 32, 115, 109, 97, 108, 108, 32, 98, 101, 97, 99, 104, 32, 116, 104, 97, 116, 32, 105, 115, 32, 110, 111, 116, 32, 101, 109, 112, 116, 121]) := by kernel_rfl
theorem XU : Str.ofString "most_gates" = Str.mk (.mk [109, 111, 115, 116, 95, 103, 97, 116, 101, 115]) := by kernel_rfl
theorem Z8 : Str.ofString "places_passed" = Str.mk (.mk [112, 108, 97, 99, 101, 115, 95, 112, 97, 115, 115, 101, 100]) := by kernel_rfl
theorem YJ : Str.ofString "__name__" = Str.mk (.mk [95, 95, 110, 97, 109, 101, 95, 95]) := by kernel_rfl
theorem YH : Str.ofString "law_throwgate_k43_whole_taken_back" = Str.mk (.mk [108, 97, 119, 95, 116, 104, 114, 111, 119, 103, 97, 116, 101, 95, 107, 52, 51, 95, 119, 104, 111, 108, 101, 95, 116, 97, 107, 101, 110, 95, 98, 97, 99, 107]) := by kernel_rfl
theorem Ys : Str.ofString "run" = Str.mk (.mk [114, 117, 110]) := by kernel_rfl
theorem Zi : Str.ofString "longer" = Str.mk (.mk [108, 111, 110, 103, 101, 114]) := by kernel_rfl
theorem YI : Str.ofString "longer_throw" = Str.mk (.mk [108, 111, 110, 103, 101, 114, 95, 116, 104, 114, 111, 119]) := by kernel_rfl
theorem YA : Str.ofString "common_throw" = Str.mk (.mk [99, 111, 109, 109, 111, 110, 95, 116, 104, 114, 111, 119]) := by kernel_rfl
theorem ZA : Str.ofString "run_told" = Str.mk (.mk [114, 117, 110, 95, 116, 111, 108, 100]) := by kernel_rfl
theorem Xd : Str.ofString "throwgate.small" = Str.mk (.mk [116, 104, 114, 111, 119, 103, 97, 116, 101, 46, 115, 109, 97, 108, 108]) := by kernel_rfl
theorem Xh : Str.ofString "tried_throws" = Str.mk (.mk [116, 114, 105, 101, 100, 95, 116, 104, 114, 111, 119, 115]) := by kernel_rfl
theorem ZQ : Str.ofString "ordered" = Str.mk (.mk [111, 114, 100, 101, 114, 101, 100]) := by kernel_rfl
theorem Yl : Str.ofString "throws" = Str.mk (.mk [116, 104, 114, 111, 119, 115]) := by kernel_rfl
theorem aA : Str.ofString "index" = Str.mk (.mk [105, 110, 100, 101, 120]) := by kernel_rfl
theorem YC : Str.ofString "earlier" = Str.mk (.mk [101, 97, 114, 108, 105, 101, 114]) := by kernel_rfl
theorem XS : Str.ofString "enumerate" = Str.mk (.mk [101, 110, 117, 109, 101, 114, 97, 116, 101]) := by kernel_rfl
theorem Xv : Str.ofString "later" = Str.mk (.mk [108, 97, 116, 101, 114]) := by kernel_rfl
theorem Xz : Str.ofString "line_by" = Str.mk (.mk [108, 105, 110, 101, 95, 98, 121]) := by kernel_rfl
theorem Xa : Str.ofString "tried" = Str.mk (.mk [116, 114, 105, 101, 100]) := by kernel_rfl
theorem Zv : Str.ofString "key" = Str.mk (.mk [107, 101, 121]) := by kernel_rfl
theorem X2 : Str.ofString "told" = Str.mk (.mk [116, 111, 108, 100]) := by kernel_rfl
theorem aZ : Str.ofString "throwgate.beach" = Str.mk (.mk [116, 104, 114, 111, 119, 103, 97, 116, 101, 46, 98, 101, 97, 99, 104]) := by kernel_rfl
theorem aR : Str.ofString "turned_over" = Str.mk (.mk [116, 117, 114, 110, 101, 100, 95, 111, 118, 101, 114]) := by kernel_rfl
theorem Ym : Str.ofString "turned_throw" = Str.mk (.mk [116, 117, 114, 110, 101, 100, 95, 116, 104, 114, 111, 119]) := by kernel_rfl
theorem Y2 : Str.ofString "found" = Str.mk (.mk [102, 111, 117, 110, 100]) := by kernel_rfl
theorem aG : Str.ofString "steepest_found" = Str.mk (.mk [115, 116, 101, 101, 112, 101, 115, 116, 95, 102, 111, 117, 110, 100]) := by kernel_rfl
theorem Zo : Str.ofString "bar_told" = Str.mk (.mk [98, 97, 114, 95, 116, 111, 108, 100]) := by kernel_rfl
theorem ag : Str.ofString "throwgate.shore" = Str.mk (.mk [116, 104, 114, 111, 119, 103, 97, 116, 101, 46, 115, 104, 111, 114, 101]) := by kernel_rfl
theorem YY : Str.ofString "level_throw" = Str.mk (.mk [108, 101, 118, 101, 108, 95, 116, 104, 114, 111, 119]) := by kernel_rfl
theorem Zy : Str.ofString "bar" = Str.mk (.mk [98, 97, 114]) := by kernel_rfl
theorem aX : Str.ofString "first_three" = Str.mk (.mk [102, 105, 114, 115, 116, 95, 116, 104, 114, 101, 101]) := by kernel_rfl
theorem aC : Str.ofString "passes" = Str.mk (.mk [112, 97, 115, 115, 101, 115]) := by kernel_rfl
theorem aF : Str.ofString "foot_to_head" = Str.mk (.mk [102, 111, 111, 116, 95, 116, 111, 95, 104, 101, 97, 100]) := by kernel_rfl
theorem YW : Str.ofString "tightest_pair" = Str.mk (.mk [116, 105, 103, 104, 116, 101, 115, 116, 95, 112, 97, 105, 114]) := by kernel_rfl
theorem Zq : Str.ofString "pair" = Str.mk (.mk [112, 97, 105, 114]) := by kernel_rfl
theorem ZZ : Str.ofString "compare" = Str.mk (.mk [99, 111, 109, 112, 97, 114, 101]) := by kernel_rfl
theorem Zg : Str.ofString "foot_place" = Str.mk (.mk [102, 111, 111, 116, 95, 112, 108, 97, 99, 101]) := by kernel_rfl
theorem aB : Str.ofString "head_place" = Str.mk (.mk [104, 101, 97, 100, 95, 112, 108, 97, 99, 101]) := by kernel_rfl
theorem aY : Str.ofString "passes_all" = Str.mk (.mk [112, 97, 115, 115, 101, 115, 95, 97, 108, 108]) := by kernel_rfl
theorem Xb : Str.ofString "height" = Str.mk (.mk [104, 101, 105, 103, 104, 116]) := by kernel_rfl
theorem aD : Str.ofString "height_at" = Str.mk (.mk [104, 101, 105, 103, 104, 116, 95, 97, 116]) := by kernel_rfl
theorem ZP : Str.ofString "height_top" = Str.mk (.mk [104, 101, 105, 103, 104, 116, 95, 116, 111, 112]) := by kernel_rfl
theorem au : Str.ofString "height_bottom" = Str.mk (.mk [104, 101, 105, 103, 104, 116, 95, 98, 111, 116, 116, 111, 109]) := by kernel_rfl
theorem aq : Str.ofString "rise_top" = Str.mk (.mk [114, 105, 115, 101, 95, 116, 111, 112]) := by kernel_rfl
theorem aE : Str.ofString "rise_bottom" = Str.mk (.mk [114, 105, 115, 101, 95, 98, 111, 116, 116, 111, 109]) := by kernel_rfl
theorem Y0 : Str.ofString "top" = Str.mk (.mk [116, 111, 112]) := by kernel_rfl
theorem Xq : Str.ofString "lowest" = Str.mk (.mk [108, 111, 119, 101, 115, 116]) := by kernel_rfl
theorem Z9 : Str.ofString "other" = Str.mk (.mk [111, 116, 104, 101, 114]) := by kernel_rfl
theorem ZM : Str.ofString "second" = Str.mk (.mk [115, 101, 99, 111, 110, 100]) := by kernel_rfl
theorem Zu : Str.ofString "steps" = Str.mk (.mk [115, 116, 101, 112, 115]) := by kernel_rfl
theorem X3 : Str.ofString "gain" = Str.mk (.mk [103, 97, 105, 110]) := by kernel_rfl
theorem aK : Str.ofString "start" = Str.mk (.mk [115, 116, 97, 114, 116]) := by kernel_rfl
theorem aL : Str.ofString "rise" = Str.mk (.mk [114, 105, 115, 101]) := by kernel_rfl
theorem aM : Str.ofString "throwgate.lists" = Str.mk (.mk [116, 104, 114, 111, 119, 103, 97, 116, 101, 46, 108, 105, 115, 116, 115]) := by kernel_rfl
theorem X0 : Str.ofString "all" = Str.mk (.mk [97, 108, 108]) := by kernel_rfl
theorem YM : Str.ofString "throwgate.fracs" = Str.mk (.mk [116, 104, 114, 111, 119, 103, 97, 116, 101, 46, 102, 114, 97, 99, 115]) := by kernel_rfl
theorem XR : Str.ofString "greatest_divisor" = Str.mk (.mk [103, 114, 101, 97, 116, 101, 115, 116, 95, 100, 105, 118, 105, 115, 111, 114]) := by kernel_rfl
theorem aJ : Str.ofString "one" = Str.mk (.mk [111, 110, 101]) := by kernel_rfl
theorem Y5 : Str.ofString "two" = Str.mk (.mk [116, 119, 111]) := by kernel_rfl
theorem ZH : Str.ofString "divisor" = Str.mk (.mk [100, 105, 118, 105, 115, 111, 114]) := by kernel_rfl
theorem Yd : Str.ofString "rest" = Str.mk (.mk [114, 101, 115, 116]) := by kernel_rfl
theorem Xo : Str.ofString "next_rest" = Str.mk (.mk [110, 101, 120, 116, 95, 114, 101, 115, 116]) := by kernel_rfl
theorem aH : Str.ofString "bottom" = Str.mk (.mk [98, 111, 116, 116, 111, 109]) := by kernel_rfl
theorem Y1 : Str.ofString "right" = Str.mk (.mk [114, 105, 103, 104, 116]) := by kernel_rfl
theorem XX : Str.ofString "throwgate.lines" = Str.mk (.mk [116, 104, 114, 111, 119, 103, 97, 116, 101, 46, 108, 105, 110, 101, 115]) := by kernel_rfl
theorem XV : Str.ofString "throwgate.bars" = Str.mk (.mk [116, 104, 114, 111, 119, 103, 97, 116, 101, 46, 98, 97, 114, 115]) := by kernel_rfl
theorem Zk : Str.ofString "side_of_line" = Str.mk (.mk [115, 105, 100, 101, 95, 111, 102, 95, 108, 105, 110, 101]) := by kernel_rfl
theorem Ye : Str.ofString "end" = Str.mk (.mk [101, 110, 100]) := by kernel_rfl
theorem Xn : Str.ofString "barring" = Str.mk (.mk [98, 97, 114, 114, 105, 110, 103]) := by kernel_rfl
theorem Y7 : Str.ofString "three" = Str.mk (.mk [116, 104, 114, 101, 101]) := by kernel_rfl
theorem X5 : Str.ofString "count" = Str.mk (.mk [99, 111, 117, 110, 116]) := by kernel_rfl
theorem ZL : Str.ofString "first" = Str.mk (.mk [102, 105, 114, 115, 116]) := by kernel_rfl
theorem Y9 : Str.ofString "middle" = Str.mk (.mk [109, 105, 100, 100, 108, 101]) := by kernel_rfl
theorem YV : Str.ofString "last" = Str.mk (.mk [108, 97, 115, 116]) := by kernel_rfl
theorem ao : Str.ofString "BeachError" = Str.mk (.mk [66, 101, 97, 99, 104, 69, 114, 114, 111, 114]) := by kernel_rfl
theorem YQ : Str.ofString "throwgate.errors" = Str.mk (.mk [116, 104, 114, 111, 119, 103, 97, 116, 101, 46, 101, 114, 114, 111, 114, 115]) := by kernel_rfl
theorem Yz : Str.ofString "ValueError" = Str.mk (.mk [86, 97, 108, 117, 101, 69, 114, 114, 111, 114]) := by kernel_rfl
theorem ZJ : Str.ofString "/claim/cut.py" = Str.mk (.mk [47, 99, 108, 97, 105, 109, 47, 99, 117, 116, 46, 112, 121]) := by kernel_rfl
noncomputable def Tw : PSigma fun t : Program => PySem.Challenge.pw_throwgate_k43_whole_taken_back = t := by
 have h := Gq
 simp only [EqA, at_0, at_1, at_2, at_3, at_4, at_5, at_6, at_7, at_8, at_9, at_10, at_11, at_12, at_13, at_14, at_15, at_16, at_17, at_18, at_19, at_20, at_21, at_22, at_23, at_24, at_25, at_26, at_27, at_28, at_29, at_30, at_31, at_32, at_33, at_34, at_35, at_36, at_37, at_38, at_39, at_40, at_41, at_42, at_43, at_44, at_45, at_46, at_47, at_48, at_49, at_50, at_51, at_52, at_53, at_54, at_55, at_56, at_57, at_58, at_59, at_60, at_61, at_62, at_63, at_64, at_65, at_66, at_67, at_68, at_69, at_70, at_71, at_72, at_73, at_74, at_75, at_76, at_77, at_78, at_79, at_80, at_81, at_82, at_83, at_84, at_85, at_86, at_87, at_88, at_89, at_90, at_91, at_92, at_93, at_94, at_95, at_96, at_97, at_98, at_99, Xp, YK, Zw, ZY, Zc, Yp, ZE, Xr, XZ, YX, ah, YB, ZV, Xf, Y8, Yh, Zb, Z6, YU, Xg, Yt, Z7, aw, ZC, Xl, Yc, Zl, Zs, X9, X4, Yr, YE, ak, Xy, ae, Yn, Z4, Zm, Xu, aN, Xk, Zx, XY, ZN, Xj, Zz, Xm, Y6, aT, YN, YZ, Yb, ZK, aU, ZB, X8, ZS, YT, Y4, XO, ZI, YG, ZO, Zh, Xc, ZU, Yk, Yj, bB, Yy, am, Xi, Z3, Yq, aO, ZR, Za, XU, Z8, YJ, YH, Ys, Zi, YI, YA, ZA, Xd, Xh, ZQ, Yl, aA, YC, XS, Xv, Xz, Xa, Zv, X2, aZ, aR, Ym, Y2, aG, Zo, ag, YY, Zy, aX, aC, aF, YW, Zq, ZZ, Zg, aB, aY, Xb, aD, ZP, au, aq, aE, Y0, Xq, Z9, ZM, Zu, X3, aK, aL, aM, X0, YM, XR, aJ, Y5, ZH, Yd, Xo, aH, Y1, XX, XV, Zk, Ye, Xn, Y7, X5, ZL, Y9, YV, ao, YQ, Yz, ZJ] at h
 exact ⟨_, h⟩
noncomputable def _root_.PySem.W.Fast.tw9859060841858869672 : PySem.Program := TG.Tw.1
theorem _root_.PySem.W.Fast.te9859060841858869672 : PySem.Challenge.pw_throwgate_k43_whole_taken_back = PySem.W.Fast.tw9859060841858869672 := TG.Tw.2
set_option hygiene false
local macro_rules | `(tactic| walk_at "NX") => `(tactic| (refine hM _ _ ?_; clear hM; clear M))
local macro_rules | `(tactic| walk_at "Q") => `(tactic| (refine DH fun M hM => ?_))
local macro_rules | `(tactic| walk_at "LN") => `(tactic| (first | (obtain ⟨rfl, _⟩ := h; rfl) | (obtain ⟨_, h⟩ := h; walk_at "LN")))
local macro_rules | `(tactic| walk_at "I2") => `(tactic| (intro cdv A outer s H vs Q E hr h; have hu := Vi hr))
local macro_rules | `(tactic| walk_at "b1") => `(tactic| (obtain ⟨x0, rfl⟩ := YL hl; rfl))
local macro_rules | `(tactic| walk_at "b2") => `(tactic| (obtain ⟨x0, x1, rfl⟩ := ZG hl; rfl))
local macro_rules | `(tactic| walk_at "b3") => `(tactic| (obtain ⟨x0, x1, x2, rfl⟩ := Vl hl; rfl))
local macro_rules | `(tactic| walk_at "b4") => `(tactic| (obtain ⟨x0, x1, x2, x3, rfl⟩ := len4 hl; rfl))
local macro_rules | `(tactic| walk_at "b5") => `(tactic| (obtain ⟨x0, x1, x2, x3, x4, rfl⟩ := len5 hl; rfl))
local macro_rules | `(tactic| walk_at "SC") => `(tactic| (exact ⟨rfl, rfl, rfl, by decide +kernel, rfl, by decide +kernel, by decide +kernel⟩))
local macro_rules | `(tactic| walk_at "SQT0") => `(tactic| (first | with_reducible assumption | exact SqT.of (by with_reducible assumption)))
local macro_rules | `(tactic| walk_at "SQL0") => `(tactic| (first | with_reducible assumption | exact SqL.of (by with_reducible assumption)))
local macro_rules | `(tactic| walk_at "SAT0") => `(tactic| (with_reducible assumption))
local macro_rules | `(tactic| walk_at "SAME0") => `(tactic| (first | with_reducible assumption | exact AI.refl _))
local macro_rules | `(tactic| walk_at "SQT1") => `(tactic| (first | with_reducible assumption | exact SqT.of (by with_reducible assumption) | exact AI.tup (by with_reducible assumption) (by walk_at "SQT0")))
local macro_rules | `(tactic| walk_at "SQL1") => `(tactic| (first | with_reducible assumption | exact SqL.of (by with_reducible assumption) | exact AI.seq (by with_reducible assumption) (by walk_at "SQL0")))
local macro_rules | `(tactic| walk_at "SAT1") => `(tactic| (first | with_reducible assumption | exact AI.get (by with_reducible assumption) (by walk_at "SAT0")))
local macro_rules | `(tactic| walk_at "SAME1") => `(tactic| (first | with_reducible assumption | exact AI.refl _ | exact AI.trans (by with_reducible assumption) (by walk_at "SAME0")))
local macro_rules | `(tactic| walk_at "SQT2") => `(tactic| (first | with_reducible assumption | exact SqT.of (by with_reducible assumption) | exact AI.tup (by with_reducible assumption) (by walk_at "SQT1")))
local macro_rules | `(tactic| walk_at "SQL2") => `(tactic| (first | with_reducible assumption | exact SqL.of (by with_reducible assumption) | exact AI.seq (by with_reducible assumption) (by walk_at "SQL1")))
local macro_rules | `(tactic| walk_at "SAT2") => `(tactic| (first | with_reducible assumption | exact AI.get (by with_reducible assumption) (by walk_at "SAT1")))
local macro_rules | `(tactic| walk_at "SAME2") => `(tactic| (first | with_reducible assumption | exact AI.refl _ | exact AI.trans (by with_reducible assumption) (by walk_at "SAME1")))
local macro_rules | `(tactic| walk_at "SQT3") => `(tactic| (first | with_reducible assumption | exact SqT.of (by with_reducible assumption) | exact AI.tup (by with_reducible assumption) (by walk_at "SQT2")))
local macro_rules | `(tactic| walk_at "SQL3") => `(tactic| (first | with_reducible assumption | exact SqL.of (by with_reducible assumption) | exact AI.seq (by with_reducible assumption) (by walk_at "SQL2")))
local macro_rules | `(tactic| walk_at "SAT3") => `(tactic| (first | with_reducible assumption | exact AI.get (by with_reducible assumption) (by walk_at "SAT2")))
local macro_rules | `(tactic| walk_at "SAME3") => `(tactic| (first | with_reducible assumption | exact AI.refl _ | exact AI.trans (by with_reducible assumption) (by walk_at "SAME2")))
local macro_rules | `(tactic| walk_at "SQT4") => `(tactic| (first | with_reducible assumption | exact SqT.of (by with_reducible assumption) | exact AI.tup (by with_reducible assumption) (by walk_at "SQT3")))
local macro_rules | `(tactic| walk_at "SQL4") => `(tactic| (first | with_reducible assumption | exact SqL.of (by with_reducible assumption) | exact AI.seq (by with_reducible assumption) (by walk_at "SQL3")))
local macro_rules | `(tactic| walk_at "SAT4") => `(tactic| (first | with_reducible assumption | exact AI.get (by with_reducible assumption) (by walk_at "SAT3")))
local macro_rules | `(tactic| walk_at "SAME4") => `(tactic| (first | with_reducible assumption | exact AI.refl _ | exact AI.trans (by with_reducible assumption) (by walk_at "SAME3")))
local macro_rules | `(tactic| walk_at "SQT5") => `(tactic| (first | with_reducible assumption | exact SqT.of (by with_reducible assumption) | exact AI.tup (by with_reducible assumption) (by walk_at "SQT4")))
local macro_rules | `(tactic| walk_at "SQL5") => `(tactic| (first | with_reducible assumption | exact SqL.of (by with_reducible assumption) | exact AI.seq (by with_reducible assumption) (by walk_at "SQL4")))
local macro_rules | `(tactic| walk_at "SAT5") => `(tactic| (first | with_reducible assumption | exact AI.get (by with_reducible assumption) (by walk_at "SAT4")))
local macro_rules | `(tactic| walk_at "SAME5") => `(tactic| (first | with_reducible assumption | exact AI.refl _ | exact AI.trans (by with_reducible assumption) (by walk_at "SAME4")))
local macro_rules | `(tactic| walk_at "SQT6") => `(tactic| (first | with_reducible assumption | exact SqT.of (by with_reducible assumption) | exact AI.tup (by with_reducible assumption) (by walk_at "SQT5")))
local macro_rules | `(tactic| walk_at "SQL6") => `(tactic| (first | with_reducible assumption | exact SqL.of (by with_reducible assumption) | exact AI.seq (by with_reducible assumption) (by walk_at "SQL5")))
local macro_rules | `(tactic| walk_at "SAT6") => `(tactic| (first | with_reducible assumption | exact AI.get (by with_reducible assumption) (by walk_at "SAT5")))
local macro_rules | `(tactic| walk_at "SAME6") => `(tactic| (first | with_reducible assumption | exact AI.refl _ | exact AI.trans (by with_reducible assumption) (by walk_at "SAME5")))
local macro_rules | `(tactic| walk_at "SAT7") => `(tactic| (first | with_reducible assumption | exact AI.get (by with_reducible assumption) (by walk_at "SAT6")))
local macro_rules | `(tactic| walk_at "SAME7") => `(tactic| (first | with_reducible assumption | exact AI.refl _ | exact AI.trans (by with_reducible assumption) (by walk_at "SAME6")))
local macro_rules | `(tactic| walk_at "SAT8") => `(tactic| (first | with_reducible assumption | exact AI.get (by with_reducible assumption) (by walk_at "SAT7")))
local macro_rules | `(tactic| walk_at "SAME8") => `(tactic| (first | with_reducible assumption | exact AI.refl _ | exact AI.trans (by with_reducible assumption) (by walk_at "SAME7")))
local macro_rules | `(tactic| walk_at "RD") => `(tactic| ((try dsimp only [RY, OX, SF, ND, Mi, Pp, T2, Pi, Mq, ET, Oj, La, Ji, tOp, tUn, MO, tC, G1, JM, K9, HX, tCB, Ih, Ip, rI, rI0, rU, rEq, rNe, Do, Di, Dr, Dj, Dk, Dw, Dg, DA, Du, C9, Dh, Dv, Dq, Dx, OM, OO, tOr, Il, QQ, IQ, tB, tIf, Mn, Me, JE, Dm, C6, E5, QP, Pt, Jv, El, Ex, OY, C3, Iz, K7, FW, LV, OZ, IZ, C5, Hm, Hv, IS, Ep, En, tSl, OL, DB, IR, OI, JD, rIn, N8, Hu, HP, Ek, Ey, OU, G8, OG, Er, IP, JH, Ib, J3, L2.start, if_true, if_false, List.map_cons, List.map_nil, List.length_cons, List.length_nil, List.cons_append, List.nil_append, List.replicate, List.set_cons_zero, List.set_cons_succ, List.getElem?_cons_zero, List.getElem?_cons_succ, Nat.reduceAdd, Nat.reduceSub, Int.reduceToNat, Int.reduceNeg, Int.reduceMul, Int.reduceAdd, Int.reduceSub]); (try simp only [RY, OX, SF, ND, Mi, Pp, T2, Pi, Mq, ET, Oj, La, Ji, tOp, tUn, MO, tC, G1, JM, K9, HX, tCB, Ih, Ip, rI, rI0, rU, rEq, rNe, Do, Di, Dr, Dj, Dk, Dw, Dg, DA, Du, C9, Dh, Dv, Dq, Dx, OM, OO, tOr, Il, QQ, IQ, tB, tIf, Mn, Me, Ru, Rr, QK, JE, Dm, C6, E5, QP, Pt, Jv, El, Ex, OY, C3, Iz, K7, FW, LV, OZ, IZ, C5, Hm, Hv, IS, Ep, En, tSl, OL, DB, IR, OI, JD, rIn, N8, Hu, HP, Ek, Ey, OU, G8, OG, Er, IP, JH, Ib, J3, L2.start, cxK, exists_and_right, and_assoc, Int.reduceLE, Int.reduceLT, Nat.reduceLT, Nat.reducePow, Int.reducePow, LF, Pc, false_and, exists_false, and_false, if_true, if_false, decide_true, decide_false, Bool.false_eq_true, Bool.not_true, Bool.not_false, List.map_cons, List.map_nil, List.length_cons, List.length_nil, List.cons_append, List.nil_append, List.append_nil, List.replicate, List.set_cons_zero, List.set_cons_succ, List.getElem?_cons_zero, List.getElem?_cons_succ, Option.some.injEq, V.int.injEq, V.bl.injEq, V.ref.injEq, V.ty.injEq, V.str.injEq, List.cons.injEq, exists_eq_left', exists_and_left, exists_eq_left, true_and, and_true, true_or, or_true, Nat.reduceAdd, Nat.reduceSub, Int.reduceToNat, Int.reduceNeg, Int.reduceMul, Int.reduceAdd, Int.reduceSub, Bool.not_eq_true, Bool.not_not, forall_const])))
local macro_rules | `(tactic| walk_at "RDE") => `(tactic| ((try dsimp only [tOp, tUn, MO, tC, G1, JM, K9, HX, tCB, Ih, Ip, rI, rI0, rU, rEq, rNe, Do, Di, Dr, Dj, Dk, Dw, Dg, DA, Du, C9, Dh, Dv, Dq, Dx, OM, OO, tOr, Il, QQ, IQ, tB, tIf, Mn, Me, JE, Dm, C6, E5, QP, Pt, Jv, El, Ex, OY, C3, Iz, K7, FW, LV, OZ, IZ, C5, Hm, Hv, IS, Ep, En, tSl, OL, DB, IR, OI, JD, rIn, N8, Hu, HP, Ek, Ey, OU, G8, OG, Er, IP, JH, Ib, J3, L2.start, if_true, if_false, List.map_cons, List.map_nil, List.length_cons, List.length_nil, List.cons_append, List.nil_append, List.replicate, List.set_cons_zero, List.set_cons_succ, List.getElem?_cons_zero, List.getElem?_cons_succ, Nat.reduceAdd, Nat.reduceSub, Int.reduceToNat, Int.reduceNeg, Int.reduceMul, Int.reduceAdd, Int.reduceSub]); (try simp only [tOp, tUn, MO, tC, G1, JM, K9, HX, tCB, Ih, Ip, rI, rI0, rU, rEq, rNe, Do, Di, Dr, Dj, Dk, Dw, Dg, DA, Du, C9, Dh, Dv, Dq, Dx, OM, OO, tOr, Il, QQ, IQ, tB, tIf, Mn, Me, Ru, Rr, QK, JE, Dm, C6, E5, QP, Pt, Jv, El, Ex, OY, C3, Iz, K7, FW, LV, OZ, IZ, C5, Hm, Hv, IS, Ep, En, tSl, OL, DB, IR, OI, JD, rIn, N8, Hu, HP, Ek, Ey, OU, G8, OG, Er, IP, JH, Ib, J3, L2.start, cxK, exists_and_right, and_assoc, Int.reduceLE, Int.reduceLT, Nat.reduceLT, Nat.reducePow, Int.reducePow, LF, Pc, false_and, exists_false, and_false, if_true, if_false, decide_true, decide_false, Bool.false_eq_true, Bool.not_true, Bool.not_false, List.map_cons, List.map_nil, List.length_cons, List.length_nil, List.cons_append, List.nil_append, List.append_nil, List.replicate, List.set_cons_zero, List.set_cons_succ, List.getElem?_cons_zero, List.getElem?_cons_succ, Option.some.injEq, V.int.injEq, V.bl.injEq, V.ref.injEq, V.ty.injEq, V.str.injEq, List.cons.injEq, exists_eq_left', exists_and_left, exists_eq_left, true_and, and_true, true_or, or_true, Nat.reduceAdd, Nat.reduceSub, Int.reduceToNat, Int.reduceNeg, Int.reduceMul, Int.reduceAdd, Int.reduceSub, Bool.not_eq_true, Bool.not_not, forall_const])))
local macro_rules | `(tactic| walk_at "STEP") => `(tactic| ((first | (with_reducible refine ⟨_, rfl, ?_⟩) | (with_reducible apply KL; · exact rfl) | (with_reducible apply KL; · (walk_at "SQT6")) | (with_reducible apply KL; · (walk_at "SQL6")) | (with_reducible apply KL; · (walk_at "SAT6")) | (with_reducible apply KL; · exact A2 (by omega) (by omega)) | (with_reducible apply exOrL; · (walk_at "SQL6")) | (with_reducible apply exOrR; · (walk_at "SQT6")) | (with_reducible apply KL; · exact E1.tup (by walk_at "SAT6")) | (with_reducible apply KL; · exact E1.lst (by walk_at "SAT6")) | (with_reducible apply KL; · exact E1.int _) | (with_reducible apply KL; · exact E1.str _) | (with_reducible apply And.intro; · (first | exact rfl | exact DA | exact C9 | decide | with_reducible assumption | omega | exact ⟨_, rfl⟩ | exact ⟨_, (by walk_at "SQL6")⟩ | exact ⟨_, (by walk_at "SQT6")⟩ | exact ⟨_, (by walk_at "SAT6")⟩ | (simp only [List.length_map, List.length_append, List.length_cons, List.length_nil, PySem.sizeLine_eq]; omega) | first | with_reducible assumption | exact Sm.of (n := 10 ^ 120) (by omega) (by decide +kernel))) | (with_reducible intro p H' hn hs he; (have ck := ZX hs); clear ck) | (with_reducible apply Z5; · (first | decide | (simp; done) | (simp; omega))) | (with_reducible apply Yo; · (first | decide | (simp; done) | (simp; omega))))))
local macro_rules | `(tactic| walk_at "AUTO") => `(tactic| (repeat walk_at "STEP"))
local macro_rules | `(tactic| delta $ids*) => do
  let ls ← ids.mapM fun i => `(Lean.Parser.Tactic.simpLemma| $i:ident)
  `(tactic| (try dsimp only [RY, OX, SF, ND, Mi, Pp, T2, Pi, Mq, ET, Oj, La, Ji, tOp, tUn, MO, tC, G1, JM, K9, HX, tCB, Ih, Ip, rI, rI0, rU, rEq, rNe, Do, Di, Dr, Dj, Dk, Dw, Dg, DA, Du, C9, Dh, Dv, Dq, Dx, OM, OO, tOr, Il, QQ, IQ, tB, tIf, Mn, Me, JE, Dm, C6, E5, QP, Pt, Jv, El, Ex, OY, C3, Iz, K7, FW, LV, OZ, IZ, C5, Hm, Hv, IS, Ep, En, tSl, OL, DB, IR, OI, JD, rIn, N8, Hu, HP, Ek, Ey, OU, G8, OG, Er, IP, JH, Ib, J3, L2.start, if_true, if_false, List.map_cons, List.map_nil, List.length_cons, List.length_nil, List.cons_append, List.nil_append, List.replicate, List.set_cons_zero, List.set_cons_succ, List.getElem?_cons_zero, List.getElem?_cons_succ, Nat.reduceAdd, Nat.reduceSub, Int.reduceToNat, Int.reduceNeg, Int.reduceMul, Int.reduceAdd, Int.reduceSub, $ls,*]); (try simp only [RY, OX, SF, ND, Mi, Pp, T2, Pi, Mq, ET, Oj, La, Ji, tOp, tUn, MO, tC, G1, JM, K9, HX, tCB, Ih, Ip, rI, rI0, rU, rEq, rNe, Do, Di, Dr, Dj, Dk, Dw, Dg, DA, Du, C9, Dh, Dv, Dq, Dx, OM, OO, tOr, Il, QQ, IQ, tB, tIf, Mn, Me, Ru, Rr, QK, JE, Dm, C6, E5, QP, Pt, Jv, El, Ex, OY, C3, Iz, K7, FW, LV, OZ, IZ, C5, Hm, Hv, IS, Ep, En, tSl, OL, DB, IR, OI, JD, rIn, N8, Hu, HP, Ek, Ey, OU, G8, OG, Er, IP, JH, Ib, J3, L2.start, cxK, exists_and_right, and_assoc, Int.reduceLE, Int.reduceLT, Nat.reduceLT, Nat.reducePow, Int.reducePow, LF, Pc, false_and, exists_false, and_false, if_true, if_false, decide_true, decide_false, Bool.false_eq_true, Bool.not_true, Bool.not_false, List.map_cons, List.map_nil, List.length_cons, List.length_nil, List.cons_append, List.nil_append, List.append_nil, List.replicate, List.set_cons_zero, List.set_cons_succ, List.getElem?_cons_zero, List.getElem?_cons_succ, Option.some.injEq, V.int.injEq, V.bl.injEq, V.ref.injEq, V.ty.injEq, V.str.injEq, List.cons.injEq, exists_eq_left', exists_and_left, exists_eq_left, true_and, and_true, true_or, or_true, Nat.reduceAdd, Nat.reduceSub, Int.reduceToNat, Int.reduceNeg, Int.reduceMul, Int.reduceAdd, Int.reduceSub, Bool.not_eq_true, Bool.not_not, forall_const, $ls,*]))
noncomputable def top (i : Nat) : Stmt := PySem.Challenge.pw_throwgate_k43_whole_taken_back.main.body.getD i (.Pass ⟨0, 0, 0, 0⟩)
noncomputable abbrev ED : Stmt := top 20
noncomputable abbrev K5 : Stmt := top 21
noncomputable abbrev Ej : Stmt := top 22
noncomputable abbrev CK : Stmt := top 24
noncomputable abbrev NE : Stmt := top 25
noncomputable abbrev LQ : Stmt := top 26
noncomputable abbrev G9 : Stmt := top 28
noncomputable abbrev LR : Stmt := top 29
noncomputable abbrev NJ : Stmt := top 30
noncomputable abbrev GD : Stmt := top 32
noncomputable abbrev DJ : Stmt := top 33
noncomputable abbrev EE : Stmt := top 34
noncomputable abbrev DN : Stmt := top 35
noncomputable abbrev Cz : Stmt := top 36
noncomputable abbrev Ev : Stmt := top 37
noncomputable abbrev EG : Stmt := top 38
noncomputable abbrev Jg : Stmt := top 39
noncomputable abbrev DO : Stmt := top 40
noncomputable abbrev Cr : Stmt := top 41
noncomputable abbrev Eg : Stmt := top 42
noncomputable abbrev D4 : Stmt := top 43
noncomputable abbrev Cy : Stmt := top 44
noncomputable abbrev Ja : Stmt := top 46
noncomputable abbrev Ez : Stmt := top 47
noncomputable abbrev EC : Stmt := top 49
noncomputable abbrev F3 : Stmt := top 50
noncomputable abbrev Fw : Stmt := top 52
noncomputable abbrev EH : Stmt := top 53
noncomputable abbrev E6 : Stmt := top 54
noncomputable abbrev Fo : Stmt := BA (top 55) 0
noncomputable abbrev Cu : Stmt := BA (top 55) 1
noncomputable abbrev DV : Stmt := BA (top 55) 2
noncomputable abbrev DR : Stmt := BA (top 55) 3
noncomputable abbrev Hg : Stmt := BA (top 55) 4
noncomputable abbrev F7 : Stmt := BA (top 55) 5
noncomputable abbrev GA : Stmt := BA (top 55) 6
noncomputable abbrev Fm : Stmt := BA (top 55) 7
noncomputable abbrev Fs : Stmt := BA (top 55) 8
noncomputable abbrev Ew : Stmt := BA (top 55) 9
noncomputable abbrev Et : Stmt := BA (top 55) 10
noncomputable abbrev C0 : Stmt := BA (top 55) 11
noncomputable abbrev Bv : Stmt := BA (top 55) 12
noncomputable abbrev DX : Stmt := BA (top 55) 13
noncomputable abbrev Ct : Stmt := BA (top 55) 14
noncomputable abbrev Cs : Stmt := BA (top 55) 15
noncomputable abbrev GB : Stmt := BA (top 55) 16
noncomputable abbrev GJ : Stmt := BA (top 55) 17
noncomputable abbrev D7 : Stmt := BA (top 55) 18
noncomputable abbrev Ry : Stmt := top 57
noncomputable abbrev JY : Stmt := top 58
noncomputable abbrev Hk : Stmt := top 59
noncomputable abbrev Lo : Stmt := top 60
noncomputable abbrev LP : Stmt := top 61
noncomputable abbrev HW : Stmt := top 62
noncomputable abbrev Lk : Stmt := top 63
noncomputable abbrev HS : Stmt := top 64
noncomputable abbrev NX : Stmt := top 65
noncomputable abbrev Mr : Stmt := top 66
noncomputable abbrev Nw : Stmt := top 67
noncomputable abbrev QS : Stmt := top 68
noncomputable abbrev NI : Stmt := top 69
noncomputable abbrev No : Stmt := top 70
noncomputable abbrev Nn : Stmt := top 71
noncomputable abbrev GI : Stmt := top 72
noncomputable abbrev NC : Stmt := top 73
noncomputable abbrev Ei : Stmt := top 74
noncomputable abbrev NS : Stmt := top 75
noncomputable abbrev Sr : Stmt := top 76
noncomputable abbrev CZ : Pos := ⟨176, 26, 176, 51⟩
noncomputable abbrev Kx : Str := (("most_gates" : Str) ++ ".<locals>.") ++ "<lambda>"
noncomputable abbrev CG : Addr := 330
noncomputable abbrev qv : Program := { PySem.Challenge.pw_throwgate_k43_whole_taken_back with main := { PySem.Challenge.pw_throwgate_k43_whole_taken_back.main with body := [Sr] } }
noncomputable def Xs : List Str := [Str.ofString "LEAST", Str.ofString "GREATEST", Str.ofString "MOST_GATES", Str.ofString "MOST_DEEDS", Str.ofString "SMALL_BEACH", Str.ofString "GREAT_NUMBER", Str.ofString "BeachError", Str.ofString "NoGate"]
noncomputable def av : List Str := [Str.ofString "Taken", Str.ofString "UpsideDown", Str.ofString "OutOfBounds", Str.ofString "BeachFull", Str.ofString "DeedsFull", Str.ofString "NothingBack", Str.ofString "BadList", Str.ofString "TooFew"]
noncomputable def ZD : List Str := [Str.ofString "WrongSize", Str.ofString "BadThrow", Str.ofString "side_of_line", Str.ofString "barring", Str.ofString "first_three", Str.ofString "greatest_divisor", Str.ofString "lowest", Str.ofString "compare"]
noncomputable def Xw : List Str := [Str.ofString "height_at", Str.ofString "line_by", Str.ofString "passes", Str.ofString "passes_all", Str.ofString "places_passed", Str.ofString "foot_to_head", Str.ofString "tightest_pair", Str.ofString "steepest_found"]
noncomputable def Yi : List Str := [Str.ofString "level_throw", Str.ofString "common_throw", Str.ofString "bar_told", Str.ofString "throw_through", Str.ofString "steepest_throw", Str.ofString "turned_over", Str.ofString "turned_throw", Str.ofString "flattest_throw"]
noncomputable def Z0 : List Str := [Str.ofString "run_told", Str.ofString "fewest_runs", Str.ofString "tried_throws", Str.ofString "most_gates", Str.ofString "check_gate", Str.ofString "check_places", Str.ofString "check_throw", Str.ofString "Beach"]
noncomputable def X1 : List Str := [Str.ofString "_law_at", Str.ofString "_law_spread", Str.ofString "_law_heights", Str.ofString "_law_gates", Str.ofString "_law_whole", Str.ofString "_law_numbers", Str.ofString "_law_would", Str.ofString "_law_refusal"]
noncomputable def XT : List Str := [Str.ofString "_law_done", Str.ofString "_law_kept", Str.ofString "_law_step", Str.ofString "_law_how", Str.ofString "_law_laid", Str.ofString "_law_menu", Str.ofString "_law_deed", Str.ofString "_law_standing"]
noncomputable def YS : List Str := [Str.ofString "_law_rows", Str.ofString "_law_questions", Str.ofString "_law_same"]
noncomputable def LH : List Str := Xs ++ av ++ ZD ++ Xw ++ Yi ++ Z0 ++ X1 ++ XT ++ YS
noncomputable def addrs : List Addr := [4, 2, 3, 15, 22, 23, 24, 25, 28, 35, 36, 37, 40, 47, 48, 49, 52, 59, 60, 61, 64, 71, 72, 73, 76, 83, 84, 85, 88, 95, 96, 97, 100, 107, 108, 109, 112, 119, 120, 121, 124, 131, 132, 133, 136, 143, 144, 145, 148, 155, 156, 157, 160, 162, 163, 165, 166, 167, 169, 170, 172, 173, 174, 176, 177, 179, 180, 181, 183, 184, 186, 187, 188, 190, 191, 193, 194, 195, 197, 198, 200, 201, 202, 204, 205, 207, 208, 209, 211, 212, 214, 215, 216, 218, 219, 221, 222, 223, 226, 227, 228, 231, 232, 233, 235, 236, 238, 239, 240, 242, 243, 245, 246, 247, 249, 250, 252, 253, 254, 256, 257, 259, 260, 261, 263, 264, 266, 267, 268, 270, 271, 273, 274, 275, 277, 278, 280, 281, 282, 284, 285, 287, 288, 289, 291, 292, 294, 295, 296, 298, 299, 301, 302, 303, 306, 307, 308, 310, 311, 313, 314, 315, 317, 318, 320, 321, 322, 324, 325, 327, 328, 329, 332, 333, 334, 336, 337, 339, 340, 341, 343, 344, 346, 347, 348, 350, 351, 353, 354, 362, 364, 365, 367, 368, 369, 372, 373, 374, 376, 377, 379, 380, 381, 384, 385, 386, 388, 389, 391, 392, 393, 395, 396, 398, 399, 400, 402, 403, 405, 406, 407, 409, 410, 412, 413, 414, 415, 417, 418, 420, 421, 422, 424, 425, 427, 428, 429, 431, 432, 434, 435, 436, 439, 440, 441, 443, 444, 446, 447, 448, 450, 451, 453, 454, 455, 457, 458, 460, 461, 462, 464, 465, 467, 468, 469, 471, 472, 474, 475, 476, 478, 479, 481, 482, 483, 485, 486, 488, 489, 490, 491, 492, 493, 494, 497, 499, 500, 502, 503, 504, 506, 507, 509, 510, 511, 513, 514, 516, 517, 518, 520, 521, 523, 524, 525, 527, 528, 530, 531, 532, 534, 535, 537, 538, 539, 541, 542, 544, 545, 546, 548, 549, 551, 552, 553, 555, 556, 558, 559, 560, 562, 563, 565, 566, 567, 569, 570, 572, 573, 574, 576, 577, 579, 580, 581, 583, 584, 586, 587, 588, 590, 591, 593, 594, 595, 597, 598, 600, 601, 602, 605, 606, 607, 609, 610, 612, 613, 614, 617, 618, 619, 621, 622, 624, 625, 626, 628, 629, 631, 632]
noncomputable def obs0 (K : W.Frag) : List (Bool) := [aW K "Beach" ["standing", "past"], J8 K "BeachError", J8 K "NoGate", J8 K "Taken", J8 K "UpsideDown", J8 K "OutOfBounds", J8 K "BeachFull", J8 K "DeedsFull"]
noncomputable def val0 : List (Bool) := [true, true, true, true, true, true, true, true]
noncomputable def obs1 (K : W.Frag) : List (Bool) := [J8 K "NothingBack", J8 K "BadList", J8 K "TooFew", J8 K "WrongSize", J8 K "BadThrow", VY K ["NoGate", "Taken", "UpsideDown", "OutOfBounds", "BeachFull", "DeedsFull", "NothingBack", "BadList", "TooFew", "WrongSize", "BadThrow"], LM.aP K "most_gates" CG, Go K "abs"]
noncomputable def val1 : List (Bool) := [true, true, true, true, true, true, true, true]
noncomputable def obs2 (K : W.Frag) : List (Bool) := [Go K "all", Go K "bool", Go K "dict", Go K "enumerate", Go K "int", Go K "isinstance", Go K "len", Go K "list"]
noncomputable def val2 : List (Bool) := [true, true, true, true, true, true, true, true]
noncomputable def obs3 (K : W.Frag) : List (Bool) := [Go K "max", Go K "min", Go K "range", Go K "set", Go K "sorted", Go K "str", Go K "tuple"]
noncomputable def val3 : List (Bool) := [true, true, true, true, true, true, true]
noncomputable def obs4 (K : W.Frag) : List (Seen) := [A5 K "side_of_line", A5 K "barring", A5 K "first_three", A5 K "greatest_divisor", A5 K "lowest", A5 K "compare", A5 K "height_at", A5 K "line_by"]
noncomputable def val4 : List (Seen) := [An "side_of_line" "side_of_line" ED [], An "barring" "barring" K5 [], An "first_three" "first_three" Ej [], An "greatest_divisor" "greatest_divisor" CK [], An "lowest" "lowest" NE [], An "compare" "compare" LQ [], An "height_at" "height_at" G9 [], An "line_by" "line_by" LR []]
noncomputable def obs5 (K : W.Frag) : List (Seen) := [A5 K "passes", A5 K "passes_all", A5 K "places_passed", A5 K "foot_to_head", A5 K "tightest_pair", A5 K "steepest_found", A5 K "level_throw", A5 K "common_throw"]
noncomputable def val5 : List (Seen) := [An "passes" "passes" NJ [], An "passes_all" "passes_all" GD [], An "places_passed" "places_passed" DJ [], An "foot_to_head" "foot_to_head" EE [], An "tightest_pair" "tightest_pair" DN [], An "steepest_found" "steepest_found" Cz [], An "level_throw" "level_throw" Ev [], An "common_throw" "common_throw" EG []]
noncomputable def obs6 (K : W.Frag) : List (Seen) := [A5 K "bar_told", A5 K "throw_through", A5 K "steepest_throw", A5 K "turned_over", A5 K "turned_throw", A5 K "flattest_throw", A5 K "run_told", A5 K "fewest_runs"]
noncomputable def val6 : List (Seen) := [An "bar_told" "bar_told" Jg [], An "throw_through" "throw_through" DO [], An "steepest_throw" "steepest_throw" Cr [], An "turned_over" "turned_over" Eg [], An "turned_throw" "turned_throw" D4 [], An "flattest_throw" "flattest_throw" Cy [], An "run_told" "run_told" Ja [], An "fewest_runs" "fewest_runs" Ez []]
noncomputable def obs7 (K : W.Frag) : List (Seen) := [A5 K "tried_throws", A5 K "most_gates", A5 K "check_gate", A5 K "check_places", A5 K "check_throw", DS K "Beach" "__init__" "Beach.__init__", DS K "Beach" "has_gate" "Beach.has_gate", DS K "Beach" "gate_at" "Beach.gate_at"]
noncomputable def val7 : List (Seen) := [An "tried_throws" "tried_throws" EC [], An "most_gates" "most_gates" F3 [], An "check_gate" "check_gate" Fw [], An "check_places" "check_places" EH [], An "check_throw" "check_throw" E6 [], An "__init__" "Beach.__init__" Fo [], An "has_gate" "Beach.has_gate" Cu [], An "gate_at" "Beach.gate_at" DV []]
noncomputable def obs8 (K : W.Frag) : List (Seen) := [DS K "Beach" "do_deed" "Beach.do_deed", DS K "Beach" "put" "Beach.put", DS K "Beach" "take" "Beach.take", DS K "Beach" "lift" "Beach.lift", DS K "Beach" "sink" "Beach.sink", DS K "Beach" "back" "Beach.back", DS K "Beach" "gates" "Beach.gates", DS K "Beach" "deeds" "Beach.deeds"]
noncomputable def val8 : List (Seen) := [An "do_deed" "Beach.do_deed" DR [], An "put" "Beach.put" Hg [], An "take" "Beach.take" F7 [], An "lift" "Beach.lift" GA [], An "sink" "Beach.sink" Fm [], An "back" "Beach.back" Fs [1], An "gates" "Beach.gates" Ew [], An "deeds" "Beach.deeds" Et []]
noncomputable def obs9 (K : W.Frag) : List (Seen) := [DS K "Beach" "gates_at" "Beach.gates_at", DS K "Beach" "two_gates_at" "Beach.two_gates_at", DS K "Beach" "through" "Beach.through", DS K "Beach" "steepest" "Beach.steepest", DS K "Beach" "flattest" "Beach.flattest", DS K "Beach" "runs" "Beach.runs", DS K "Beach" "most" "Beach.most", DS K "Beach" "passed" "Beach.passed"]
noncomputable def val9 : List (Seen) := [An "gates_at" "Beach.gates_at" C0 [], An "two_gates_at" "Beach.two_gates_at" Bv [], An "through" "Beach.through" DX [], An "steepest" "Beach.steepest" Ct [], An "flattest" "Beach.flattest" Cs [], An "runs" "Beach.runs" GB [], An "most" "Beach.most" GJ [], An "passed" "Beach.passed" D7 []]
noncomputable def obs10 (K : W.Frag) : List (Seen) := [A5 K "_law_at", A5 K "_law_spread", A5 K "_law_heights", A5 K "_law_gates", A5 K "_law_whole", A5 K "_law_numbers", A5 K "_law_would", A5 K "_law_refusal"]
noncomputable def val10 : List (Seen) := [An "_law_at" "_law_at" Ry [], An "_law_spread" "_law_spread" JY [], An "_law_heights" "_law_heights" Hk [], An "_law_gates" "_law_gates" Lo [], An "_law_whole" "_law_whole" LP [], An "_law_numbers" "_law_numbers" HW [], An "_law_would" "_law_would" Lk [], An "_law_refusal" "_law_refusal" HS []]
noncomputable def obs11 (K : W.Frag) : List (Seen) := [A5 K "_law_done", A5 K "_law_kept", A5 K "_law_step", A5 K "_law_how", A5 K "_law_laid", A5 K "_law_menu", A5 K "_law_deed", A5 K "_law_standing"]
noncomputable def val11 : List (Seen) := [An "_law_done" "_law_done" NX [], An "_law_kept" "_law_kept" Mr [], An "_law_step" "_law_step" Nw [], An "_law_how" "_law_how" QS [], An "_law_laid" "_law_laid" NI [], An "_law_menu" "_law_menu" No [], An "_law_deed" "_law_deed" Nn [], An "_law_standing" "_law_standing" GI []]
noncomputable def obs12 (K : W.Frag) : List (Seen) := [A5 K "_law_rows", A5 K "_law_questions", A5 K "_law_same", A5 K "law"]
noncomputable def val12 : List (Seen) := [An "_law_rows" "_law_rows" NC [], An "_law_questions" "_law_questions" Ei [], An "_law_same" "_law_same" NS [], An "law" "law" Sr []]
noncomputable def obs13 (K : W.Frag) : List (Option Int) := [RX K "LEAST", RX K "GREATEST", RX K "MOST_GATES", RX K "MOST_DEEDS", RX K "SMALL_BEACH", RX K "GREAT_NUMBER"]
noncomputable def val13 : List (Option Int) := [some (-1000), some (1000), some (40), some (300), some (12), some (999999999)]
noncomputable def SB (K : W.Frag) : List (Bool) × List (Bool) × List (Bool) × List (Bool) × List (Seen) × List (Seen) × List (Seen) × List (Seen) × List (Seen) × List (Seen) × List (Seen) × List (Seen) × List (Seen) × List (Option Int) := (obs0 K, obs1 K, obs2 K, obs3 K, obs4 K, obs5 K, obs6 K, obs7 K, obs8 K, obs9 K, obs10 K, obs11 K, obs12 K, obs13 K)
noncomputable def UW : List (Bool) × List (Bool) × List (Bool) × List (Bool) × List (Seen) × List (Seen) × List (Seen) × List (Seen) × List (Seen) × List (Seen) × List (Seen) × List (Seen) × List (Seen) × List (Option Int) := (val0, val1, val2, val3, val4, val5, val6, val7, val8, val9, val10, val11, val12, val13)
noncomputable def WK (w : World) (os : PySem.OsState) := LZ PySem.Challenge.pw_throwgate_k43_whole_taken_back qv LH (fun _ => ()) 5077 w os
noncomputable def Sv := some (true, W.openGood qv LH, ())
noncomputable def WN (w : World) (os : PySem.OsState) := U1 PySem.Challenge.pw_throwgate_k43_whole_taken_back (fun s => (LM.G4 (SS s.tree s.n CG), SB (T8 addrs s))) 5077 w os
noncomputable def TD := some (true, UW)
theorem T4 : WK = WK := rfl
theorem SI : Sv = Sv := rfl
name_quick runAY for TG.WK by TG.T4
name_quick goodAY for TG.Sv by TG.SI
theorem runA0 (w : World) (os : PySem.OsState) : PySem.W.Fast.runAY w os = PySem.W.Fast.goodAY := by kernel_rfl
theorem runA1 (w : World) (os : PySem.OsState) : WK w os = Sv := ((congrFun (congrFun PySem.W.Fast.runAY_eq w) os).trans (runA0 w os)).trans PySem.W.Fast.goodAY_eq.symm
theorem UQ : WN = WN := rfl
theorem Si : TD = TD := rfl
name_quick runBY for TG.WN by TG.UQ
name_quick goodBY for TG.TD by TG.Si
theorem runB0 (w : World) (os : PySem.OsState) : PySem.W.Fast.runBY w os = PySem.W.Fast.goodBY := by kernel_rfl
theorem runB1 (w : World) (os : PySem.OsState) : WN w os = TD := ((congrFun (congrFun PySem.W.Fast.runBY_eq w) os).trans (runB0 w os)).trans PySem.W.Fast.goodBY_eq.symm
theorem runs (w : World) (os : PySem.OsState) : LZ PySem.Challenge.pw_throwgate_k43_whole_taken_back qv LH (fun s => (LM.G4 (SS s.tree s.n CG), SB (T8 addrs s))) 5077 w os = some (true, W.openGood qv LH, (true, UW)) := Sf (runA1 w os) (runB1 w os)
theorem WE : W.LeftO PySem.Challenge.pw_throwgate_k43_whole_taken_back qv LH (fun _ => true) (fun s => (LM.G4 (s.heap.get? CG), SB (Kof addrs s.heap))) (fun _ => (true, UW)) 10214 :=
 Wb (M := 5077) (obs := fun s => (LM.G4 (SS s.tree s.n CG), SB (T8 addrs s))) (by kernel_rfl) rfl (fun _ => rfl) rfl (fun s => LM.Um s) runs
theorem inj4 {α : Type} {a0 b0 a1 b1 a2 b2 a3 b3 : α} (h : [a0, a1, a2, a3] = [b0, b1, b2, b3]) : a0 = b0 ∧ a1 = b1 ∧ a2 = b2 ∧ a3 = b3 := by simp only [zy, and_true] at h; exact h
theorem inj6 {α : Type} {a0 b0 a1 b1 a2 b2 a3 b3 a4 b4 a5 b5 : α} (h : [a0, a1, a2, a3, a4, a5] = [b0, b1, b2, b3, b4, b5]) : a0 = b0 ∧ a1 = b1 ∧ a2 = b2 ∧ a3 = b3 ∧ a4 = b4 ∧ a5 = b5 := by simp only [zy, and_true] at h; exact h
theorem inj7 {α : Type} {a0 b0 a1 b1 a2 b2 a3 b3 a4 b4 a5 b5 a6 b6 : α} (h : [a0, a1, a2, a3, a4, a5, a6] = [b0, b1, b2, b3, b4, b5, b6]) : a0 = b0 ∧ a1 = b1 ∧ a2 = b2 ∧ a3 = b3 ∧ a4 = b4 ∧ a5 = b5 ∧ a6 = b6 := by simp only [zy, and_true] at h; exact h
theorem M3 {α : Type} {a0 b0 a1 b1 a2 b2 a3 b3 a4 b4 a5 b5 a6 b6 a7 b7 : α} (h : [a0, a1, a2, a3, a4, a5, a6, a7] = [b0, b1, b2, b3, b4, b5, b6, b7]) : a0 = b0 ∧ a1 = b1 ∧ a2 = b2 ∧ a3 = b3 ∧ a4 = b4 ∧ a5 = b5 ∧ a6 = b6 ∧ a7 = b7 := by simp only [zy, and_true] at h; exact h
set_option genInjectivity false in
structure Tx (K : W.Frag) (mg : Str → Option Value) where
 AQ : Addr
 Wy : mg "Beach" = some (.ref AQ)
 AU : Cls K AQ
 Ab : Hc K AQ "standing"
 A9 : Hc K AQ "past"
 Dt : Addr
 Wj : mg "BeachError" = some (.ref Dt)
 W2 : Fn K Dt
 FP : Addr
 Ql : mg "NoGate" = some (.ref FP)
 Vx : Fn K FP
 IF : Addr
 TR : mg "Taken" = some (.ref IF)
 WS : Fn K IF
 B3 : Addr
 Ko : mg "UpsideDown" = some (.ref B3)
 QB : Fn K B3
 Bn : Addr
 Ef : mg "OutOfBounds" = some (.ref Bn)
 JF : Fn K Bn
 CP : Addr
 Lw : mg "BeachFull" = some (.ref CP)
 Qg : Fn K CP
 CQ : Addr
 Lu : mg "DeedsFull" = some (.ref CQ)
 Qf : Fn K CQ
 Bm : Addr
 I0 : mg "NothingBack" = some (.ref Bm)
 ON : Fn K Bm
 Dy : Addr
 K3 : mg "BadList" = some (.ref Dy)
 Lr : Fn K Dy
 FZ : Addr
 Uv : mg "TooFew" = some (.ref FZ)
 VT : Fn K FZ
 CS : Addr
 Q3 : mg "WrongSize" = some (.ref CS)
 Qz : Fn K CS
 Co : Addr
 Nk : mg "BadThrow" = some (.ref Co)
 NH : Fn K Co
 xs : Wr K [FP, IF, B3, Bn, CP, CQ, Bm, Dy, FZ, CS, Co]
 He : Addr
 Gi : FuncData
 EA : D K mg "side_of_line" ED ["place", "height", "start", "end"] He Gi
 Oo : Addr
 Na : FuncData
 PB : D K mg "barring" K5 ["one", "two", "three"] Oo Na
 IX : Addr
 HJ : FuncData
 IW : D K mg "first_three" Ej ["gates"] IX HJ
 EL : Addr
 De : FuncData
 EI : D K mg "greatest_divisor" CK ["one", "two"] EL De
 Q2 : Addr
 O1 : FuncData
 Kc : D K mg "lowest" NE ["top", "bottom"] Q2 O1
 Pg : Addr
 N0 : FuncData
 IG : D K mg "compare" LQ ["one", "two"] Pg N0
 L6 : Addr
 K1 : FuncData
 ME : D K mg "height_at" G9 ["throw", "place"] L6 K1
 PN : Addr
 Mb : FuncData
 Ln : D K mg "line_by" LR ["place", "height", "other", "second"] PN Mb
 Q7 : Addr
 Pl : FuncData
 Nb : D K mg "passes" NJ ["throw", "gate"] Q7 Pl
 KY : Addr
 Iu : FuncData
 K2 : D K mg "passes_all" GD ["throw", "gates"] KY Iu
 Gc : Addr
 FR : FuncData
 DK : D K mg "places_passed" DJ ["throw", "ordered"] Gc FR
 G7 : Addr
 GV : FuncData
 EB : D K mg "foot_to_head" EE ["earlier", "later"] G7 GV
 GX : Addr
 FG : FuncData
 GP : D K mg "tightest_pair" DN ["ordered"] GX FG
 FK : Addr
 EN : FuncData
 B9 : D K mg "steepest_found" Cz ["ordered"] FK EN
 JN : Addr
 HM : FuncData
 E3 : D K mg "level_throw" Ev ["height"] JN HM
 Hn : Addr
 GS : FuncData
 Bz : D K mg "common_throw" EG ["ordered"] Hn GS
 MX : Addr
 Lx : FuncData
 GE : D K mg "bar_told" Jg ["gates"] MX Lx
 GM : Addr
 Fd : FuncData
 GU : D K mg "throw_through" DO ["gates"] GM Fd
 FF : Addr
 EY : FuncData
 Fe : D K mg "steepest_throw" Cr ["gates"] FF EY
 JG : Addr
 HQ : FuncData
 Ix : D K mg "turned_over" Eg ["gate"] JG HQ
 G3 : Addr
 GW : FuncData
 HH : D K mg "turned_throw" D4 ["throw"] G3 GW
 FX : Addr
 EU : FuncData
 FY : D K mg "flattest_throw" Cy ["gates"] FX EU
 Nx : Addr
 Ls : FuncData
 Jn : D K mg "run_told" Ja ["run", "throw"] Nx Ls
 JW : Addr
 Ha : FuncData
 Iy : D K mg "fewest_runs" Ez ["gates"] JW Ha
 Gx : Addr
 Gj : FuncData
 Hq : D K mg "tried_throws" EC ["ordered"] Gx Gj
 KI : Addr
 Eh : FuncData
 K0 : D K mg "most_gates" F3 ["gates"] KI Eh
 QT : Addr
 N9 : LM.Rb K mg Eh.code QT 330
 KM : Addr
 Ir : FuncData
 Fk : D K mg "check_gate" Fw ["gate"] KM Ir
 Gw : Addr
 GO : FuncData
 Hb : D K mg "check_places" EH ["places"] Gw GO
 Ij : Addr
 G5 : FuncData
 Ia : D K mg "check_throw" E6 ["throw"] Ij G5
 F8 : Addr
 Iw : FuncData
 KU : DM K AQ "__init__" "Beach.__init__" Fo ["self"] F8 Iw
 FU : Addr
 EX : FuncData
 Cv : DM K AQ "has_gate" "Beach.has_gate" Cu ["self", "place"] FU EX
 Ga : Addr
 FJ : FuncData
 A6 : DM K AQ "gate_at" "Beach.gate_at" DV ["self", "place"] Ga FJ
 Gh : Addr
 FO : FuncData
 A7 : DM K AQ "do_deed" "Beach.do_deed" DR ["self", "place", "instead"] Gh FO
 Lz : Addr
 Ke : FuncData
 HZ : DM K AQ "put" "Beach.put" Hg ["self", "place", "foot", "head"] Lz Ke
 J6 : Addr
 JB : FuncData
 Fu : DM K AQ "take" "Beach.take" F7 ["self", "place"] J6 JB
 Kj : Addr
 JK : FuncData
 CV : DM K AQ "lift" "Beach.lift" GA ["self", "place", "foot_by", "head_by"] Kj JK
 Kt : Addr
 Ig : FuncData
 F4 : DM K AQ "sink" "Beach.sink" Fm ["self", "place", "foot_by", "head_by"] Kt Ig
 Jw : Addr
 JV : FuncData
 CA : DMD K AQ "back" "Beach.back" Fs ["self", "many"] Jw JV [.int 1]
 Ii : Addr
 HI : FuncData
 E2 : DM K AQ "gates" "Beach.gates" Ew ["self"] Ii HI
 Im : Addr
 Hl : FuncData
 OB : DM K AQ "deeds" "Beach.deeds" Et ["self"] Im Hl
 FE : Addr
 ER : FuncData
 BZ : DM K AQ "gates_at" "Beach.gates_at" C0 ["self", "places"] FE ER
 DF : Addr
 Ce : FuncData
 A4 : DM K AQ "two_gates_at" "Beach.two_gates_at" Bv ["self", "places"] DF Ce
 GZ : Addr
 Fa : FuncData
 DW : DM K AQ "through" "Beach.through" DX ["self", "places"] GZ Fa
 FT : Addr
 EO : FuncData
 C2 : DM K AQ "steepest" "Beach.steepest" Ct ["self", "places"] FT EO
 FQ : Addr
 Eb : FuncData
 Cq : DM K AQ "flattest" "Beach.flattest" Cs ["self", "places"] FQ Eb
 KP : Addr
 JP : FuncData
 Fl : DM K AQ "runs" "Beach.runs" GB ["self"] KP JP
 Kv : Addr
 JQ : FuncData
 GG : DM K AQ "most" "Beach.most" GJ ["self"] Kv JQ
 Ht : Addr
 GQ : FuncData
 Dz : DM K AQ "passed" "Beach.passed" D7 ["self", "throw"] Ht GQ
 V4 : Addr
 TM : FuncData
 Jr : D K mg "_law_at" Ry ["_law_script", "_law_k"] V4 TM
 NB : Addr
 MF : FuncData
 Ck : D K mg "_law_spread" JY ["_law_cell", "_law_many", "_law_mixed"] NB MF
 L9 : Addr
 Ju : FuncData
 L5 : D K mg "_law_heights" Hk ["_law_kind", "_law_line", "_law_wide", "_law_low", "_law_high"] L9 Ju
 O0 : Addr
 Mo : FuncData
 O3 : D K mg "_law_gates" Lo ["_law_script", "_law_at_here", "_law_many"] O0 Mo
 Pa : Addr
 MZ : FuncData
 K4 : D K mg "_law_whole" LP ["_law_found"] Pa MZ
 L0 : Addr
 Kz : FuncData
 Hj : D K mg "_law_numbers" HW ["_law_found", "_law_due"] L0 Kz
 Pm : Addr
 Mw : FuncData
 Hx : D K mg "_law_would" Lk ["_law_stands", "_law_deed_here"] Pm Mw
 L3 : Addr
 Kr : FuncData
 MA : D K mg "_law_refusal" HS ["_law_stands", "_law_past", "_law_deed_here"] L3 Kr
 RH : Addr
 PD : FuncData
 RA : D K mg "_law_done" NX ["_law_beach", "_law_deed_here"] RH PD
 Ri : Addr
 Ov : FuncData
 RG : D K mg "_law_kept" Mr ["_law_stands", "_law_past", "_law_deed_here"] Ri Ov
 Ra : Addr
 Oz : FuncData
 Jy : D K mg "_law_step" Nw ["_law_beach", "_law_stands", "_law_past", "_law_deed_here"] Ra Oz
 TU : Addr
 RV : FuncData
 P4 : D K mg "_law_how" QS ["_law_script"] TU RV
 RZ : Addr
 O5 : FuncData
 Qe : D K mg "_law_laid" NI ["_law_beach", "_law_stands", "_law_past", "_law_script", "_law_most"] RZ O5
 Qc : Addr
 PZ : FuncData
 HE : D K mg "_law_menu" No ["_law_draw"] Qc PZ
 RE : Addr
 Op : FuncData
 Q4 : D K mg "_law_deed" Nn ["_law_script", "_law_k", "_law_stands", "_law_past"] RE Op
 KS : Addr
 Io : FuncData
 GH : D K mg "_law_standing" GI ["_law_stands"] KS Io
 Rn : Addr
 PK : FuncData
 Mj : D K mg "_law_rows" NC ["_law_found", "_law_due"] Rn PK
 Ie : Addr
 Ho : FuncData
 Eo : D K mg "_law_questions" Ei ["_law_beach", "_law_stands", "_law_throw", "_law_turned"] Ie Ho
 Hf : Addr
 Fb : FuncData
 NN : D K mg "_law_same" NS ["_law_one", "_law_two", "_law_deep"] Hf Fb
 XD : Addr
 Vj : FuncData
 d_law : D K mg "law" Sr ["_law_script"] XD Vj
 Mv : Mk K AQ F8
 Sj : Value
 WP : mg "LEAST" = some Sj
 W6 : RelV (.int (-1000)) Sj
 M7 : Value
 Rx : mg "GREATEST" = some M7
 SV : RelV (.int (1000)) M7
 Jz : Value
 KQ : mg "MOST_GATES" = some Jz
 KZ : RelV (.int (40)) Jz
 Ks : Value
 QG : mg "MOST_DEEDS" = some Ks
 Pu : RelV (.int (300)) Ks
 JL : Value
 OD : mg "SMALL_BEACH" = some JL
 OK : RelV (.int (12)) JL
 HD : Value
 Hd : mg "GREAT_NUMBER" = some HD
 G6 : RelV (.int (999999999)) HD
 Rf : mg "abs" = none
 z_all : mg "all" = none
 SX : mg "bool" = none
 ZT : mg "dict" = none
 L4 : mg "enumerate" = none
 RJ : mg "int" = none
 As : mg "isinstance" = none
 Am : mg "len" = none
 F1 : mg "list" = none
 QZ : mg "max" = none
 XJ : mg "min" = none
 B8 : mg "range" = none
 z_set : mg "set" = none
 Bw : mg "sorted" = none
 XM : mg "str" = none
 QD : mg "tuple" = none
noncomputable def Tx.err {K : W.Frag} {mg : Str → Option Value} (T : Tx K mg) : Err → Value
 | .nogate => .ref T.FP
 | .taken => .ref T.IF
 | .upside => .ref T.B3
 | .bounds => .ref T.Bn
 | .full => .ref T.CP
 | .deeds => .ref T.CQ
 | .nothing => .ref T.Bm
 | .badlist => .ref T.Dy
 | .few => .ref T.FZ
 | .size => .ref T.CS
 | .badthrow => .ref T.Co
 | _ => .none
section
variable {P : Program} {w : World} {K : W.Frag} {mg : Str → Option Value} {base : Heap}
theorem DT : AR ["place", "height", "start", "end", "steps", "gain"] ["place", "height", "start", "end"] (AG ED) := by walk_at "SC"
noncomputable def GY (K : W.Frag) : Sp := fun vs H Q _ => ∃ (s e : Addr) (pl h s0 s1 e0 e1 : Int), vs = [.int pl, .int h, .ref s, .ref e] ∧ SqT K H s [.int s0, .int s1] ∧ SqT K H e [.int e0, .int e1] ∧ pl.natAbs ≤ 1000 ∧ h.natAbs ≤ 1000 ∧ s0.natAbs ≤ 1000 ∧ s1.natAbs ≤ 1000 ∧ e0.natAbs ≤ 1000 ∧ e1.natAbs ≤ 1000 ∧ Q (.int ((h - s1) * (e0 - s0) - (e1 - s1) * (pl - s0))) H
theorem GR (T : Tx K mg) : Af P w K mg base CX0 1 T.He T.Gi ["place", "height", "start", "end"] (GY K) := by
 refine T.EA.F.ok DT (fun _ _ _ _ h => by walk_at "LN") ?_
 ·walk_at "I2"
  obtain ⟨s, e, pl, h, s0, s1, e0, e1, rfl, hs, he, b1, b2, b3, b4, b5, b6, k⟩ := h
  refine ⟨_, (AD (pst 4 DT (AF Aa (pxi AS (pv 3) AB) (pxi AS (pv 2) AB)))
   (AD (pst 5 DT (AF Aa (pxi AS (pv 3) AB) (pxi AS (pv 2) AB)))
   (AE (AK (AF Aa (AF C7 (AF Aa (pv 1) (pxi AS (pv 2) AB)) (pv 4)) (AF C7 (pv 5) (AF Aa (pv 0) (pxi AS (pv 2) AB)))))))), ?_⟩
  walk_at "RD"
  walk_at "AUTO"
  exact k
theorem R7 : AR ["one", "two", "three"] ["one", "two", "three"] (AG K5) := by walk_at "SC"
noncomputable def Nr (K : W.Frag) : Sp := fun vs H Q _ => ∃ (x y z : Addr) (a b c : G), vs = [.ref x, .ref y, .ref z] ∧ SqT K H x (G.vs a) ∧ SqT K H y (G.vs b) ∧ SqT K H z (G.vs c) ∧ OkG a ∧ OkG b ∧ OkG c ∧ a.p < b.p ∧ b.p < c.p ∧ ∀ H', AI H H' → Q (.str (WW a b c)) H'
theorem Rt (T : Tx K mg) : Af P w K mg base CX0 2 T.Oo T.Na ["one", "two", "three"] (Nr K) := by
 refine T.PB.F.ok R7 (fun _ _ _ _ h => by walk_at "LN") ?_
 ·walk_at "I2"
  obtain ⟨x, y, z, a, b, c, rfl, ex, ey, ez, o1, o2, o3, l1, l2, k⟩ := h
  refine ⟨_, (AD (AY (ptc DI (pcl T.EA (GR T) hr AW (AA (pxi AS (pv 1) AB) (AA (pxi AS (pv 1) AB) (AA (AZ (AA (pxi AS (pv 0) AB) (AA (pxi AS (pv 0) AB) AC))) (AA (AZ (AA (pxi AS (pv 2) AB) (AA (pxi AS (pv 2) AB) AC))) AC))))) AB) (AE (AK AV))
    AO)
   (AD (AY (ptc Ee (pcl T.EA (GR T) hr AW (AA (pxi AS (pv 1) AB) (AA (pxi AS (pv 1) AB) (AA (AZ (AA (pxi AS (pv 0) AB) (AA (pxi AS (pv 0) AB) AC))) (AA (AZ (AA (pxi AS (pv 2) AB) (AA (pxi AS (pv 2) AB) AC))) AC))))) AB) (AE (AK AV))
    AO)
   (AE (AK AV)))), ?_⟩
  obtain ⟨p1, p2, p3, p4, p5⟩ := id o1
  obtain ⟨q1, q2, q3, q4, q5⟩ := id o2
  obtain ⟨r1, r2, r3, r4, r5⟩ := id o3
  have eF : (0 < (b.f - a.h) * (c.p - a.p) - (c.h - a.h) * (b.p - a.p)) ↔ B6 a b c := by
   unfold B6
   have e : (b.f - a.h) * (c.p - a.p) - (c.h - a.h) * (b.p - a.p) = b.f * (c.p - a.p) - (a.h * (c.p - b.p) + c.h * (b.p - a.p)) := by grind
   rw [e]
   lia
  have eH : ((b.h - a.f) * (c.p - a.p) - (c.f - a.f) * (b.p - a.p) < 0) ↔ CC a b c := by
   unfold CC
   have e : (b.h - a.f) * (c.p - a.p) - (c.f - a.f) * (b.p - a.p) = b.h * (c.p - a.p) - (a.f * (c.p - b.p) + c.f * (b.p - a.p)) := by grind
   rw [e]
   lia
  walk_at "RD"
  walk_at "AUTO"
  unfold GY
  refine ⟨_, _, _, _, _, _, _, _, rfl, (by walk_at "SQT4"), (by walk_at "SQT4"), by lia, by lia, by lia, by lia, by lia, by lia, ?_⟩
  refine ⟨_, rfl, ?_⟩
  unfold WW at k
  by_cases hf : B6 a b c
  ·rw [if_pos (z8 (eF.mpr hf))]
   rw [if_pos hf] at k
   exact k _ (by walk_at "SAME5")
  ·rw [if_neg (fun z => hf (eF.mp (z6 z)))]
   rw [if_neg hf] at k
   walk_at "AUTO"
   refine ⟨_, _, _, _, _, _, _, _, rfl, (by walk_at "SQT4"), (by walk_at "SQT4"), by lia, by lia, by lia, by lia, by lia, by lia, ?_⟩
   refine ⟨_, rfl, ?_⟩
   by_cases hh : CC a b c
   ·rw [if_pos (z8 (eH.mpr hh))]
    rw [if_pos hh] at k
    exact k _ (by walk_at "SAME5")
   ·rw [if_neg (fun z => hh (eH.mp (z6 z)))]
    rw [if_neg hh] at k
    exact k _ (by walk_at "SAME5")
theorem BY : AR ["gates", "ordered", "count", "first", "middle", "last"] ["gates"] (AG Ej) := by walk_at "SC"
noncomputable def HR (K : W.Frag) : Sp := fun vs H Q _ => ∃ (l : Addr) (as : List Addr) (gs : List G), vs = [.ref l] ∧ SqL K H l (as.map V.ref) ∧ Ak H as gs ∧ (gs.map G.p).Nodup ∧ gs.length ≤ 40 ∧ (∀ g ∈ gs, OkG g) ∧ (∀ H', AI H H' → By gs [] → Q .non H') ∧ ∀ D H' t, AI H H' → H' D = some (.tup (t.map V.int)) → t ≠ [] → By gs t → Q (.ref D) H'
theorem Q5 {a b c : G} : WW a b c = "" ↔ ¬ NP a b c := by
 unfold WW NP
 by_cases hf : B6 a b c
 ·rw [if_pos hf]
  exact ⟨fun z => absurd z (by decide), fun z => absurd (.inl hf) z⟩
 ·rw [if_neg hf]
  by_cases hh : CC a b c
  ·rw [if_pos hh]
   exact ⟨fun z => absurd z (by decide), fun z => absurd (.inr hh) z⟩
  ·rw [if_neg hh]
   exact ⟨fun _ z => z.elim hf hh, fun _ => rfl⟩
noncomputable def Vf1 (l D : Addr) (n : Int) (sg : List G) (H : Hp) : Nat → St → Hp → Prop := fun i σ H' => ∃ x y z, σ = [some (.ref l), some (.ref D), some (.int n), x, y, z] ∧ AI H H' ∧ Ax sg i 0 0
noncomputable def Vf2 (l D : Addr) (n : Int) (sg : List G) (H : Hp) (i : Nat) : Nat → St → Hp → Prop := fun t σ H' => ∃ y z, σ = [some (.ref l), some (.ref D), some (.int n), some (.int (0 + (i : Int))), y, z] ∧ AI H H' ∧ Ax sg i (i + 1 + t) 0
noncomputable def Vf3 (l D : Addr) (n : Int) (sg : List G) (H : Hp) (i j : Nat) : Nat → St → Hp → Prop := fun t σ H' => ∃ z, σ = [some (.ref l), some (.ref D), some (.int n), some (.int (0 + (i : Int))), some (.int (0 + (i : Int) + 1 + (j : Int))), z] ∧ AI H H' ∧ Ax sg i (i + 1 + j) (i + 1 + j + 1 + t)
theorem Mz (T : Tx K mg) : Af P w K mg base CX0 3 T.IX T.HJ ["gates"] (HR K) := by
 refine T.IW.F.ok BY (fun _ _ _ _ h => by walk_at "LN") ?_
 ·walk_at "I2"
  obtain ⟨l, as0, gs0, rfl, hl0, ga0, nd, h64, ok0, kn, kk⟩ := h
  refine ⟨_, (AD (pst 1 BY (AH Bj (by rfl) T.Bw BW (AA (pv 0) AC)))
   (AD (pst 2 BY (AH AJ (by rfl) T.Am Ac (AA (pv 1) AC)))
   (AD (BO PassesOwn.never rfl (Bo (by rfl) T.B8 (AA (pv 2) AC)) (pgn 3 BY)
    (AE (BO PassesOwn.never rfl (Lj (by rfl) T.B8 (AA (AF Ag (pv 3) AB) (AA (pv 2) AC))) (pgn 4 BY)
      (AE (BO PassesOwn.never rfl (Lj (by rfl) T.B8 (AA (AF Ag (pv 4) AB) (AA (pv 2) AC))) (pgn 5 BY)
        (AE (AY (ptc GK (pcl T.PB (Rt T) hr AW (AA (pxi AM (pv 1) (pv 3)) (AA (pxi AM (pv 1) (pv 4)) (AA (pxi AM (pv 1) (pv 5)) AC)))) AV) (AE (AK (AZ (AA (pxi AS (pxi AM (pv 1) (pv 3)) AB) (AA (pxi AS (pxi AM (pv 1) (pv 4)) AB) (AA (pxi AS (pxi AM (pv 1) (pv 5)) AB) AC))))))
          AO)))))))
   (AE (AK Fv))))), ?_⟩
  walk_at "RD"
  walk_at "AUTO"
  intro D H1 as gs nD s1 e1 ga hp ha
  have ok : ∀ g ∈ gs, OkG g := fun g hg => ok0 g (hp.mem_iff.mp hg)
  have la := ga.len
  have lg := hp.length_eq
  have hlm : (as.map V.ref).length = gs.length := by rw [z5, la]
  have sl := SqL.of (K := K) e1
  refine ⟨_, Or.inl sl, ?_⟩
  rw [hlm]
  refine ⟨_, rfl, (gs.length : Int), rfl, by lia, by lia, BK (Vf1 l D gs.length gs H1) ⟨none, none, none, rfl, AI.refl _, V8 gs⟩ ?_ ?_⟩
  ·rintro i σ H2 hi ⟨x, y, z, rfl, t2, n1⟩
   have hi' : i < gs.length := by lia
   refine ⟨_, rfl, _, _, rfl, rfl, _, rfl, _, _, rfl, ⟨by lia, by lia, by lia, by lia⟩, BK (Vf2 l D gs.length gs H1 i) ⟨_, _, rfl, t2, Zn n1⟩ ?_ ?_⟩
   ·rintro j σ H3 hj ⟨y, z, rfl, t3, n2⟩
    have hj' : i + 1 + j < gs.length := by lia
    refine ⟨_, rfl, _, _, rfl, rfl, _, rfl, _, _, rfl, ⟨by lia, by lia, by lia, by lia⟩, BK (Vf3 l D gs.length gs H1 i j) ⟨_, rfl, t3, na_in n2⟩ ?_ ?_⟩
    ·rintro u σ H4 hu' ⟨z, rfl, t4, n3⟩
     have hk' : i + 1 + j + 1 + u < gs.length := by lia
     obtain ⟨a1, ha1, t1'⟩ := ga.get (z4 hi')
     obtain ⟨a2, ha2, t2'⟩ := ga.get (z4 hj')
     obtain ⟨a3, ha3, t3'⟩ := ga.get (z4 hk')
     have t1 := t4.get t1'
     have t2 := t4.get t2'
     have t3 := t4.get t3'
     have i1 : atI (as.map V.ref) (0 + (i : Int)) = some (V.ref a1) := by rw [Int.zero_add]; exact Bx ha1
     have i2 : atI (as.map V.ref) (0 + (i : Int) + 1 + (j : Int)) = some (V.ref a2) := by rw [show 0 + (i : Int) + 1 + (j : Int) = ((i + 1 + j : Nat) : Int) by lia]; exact Bx ha2
     have i3 : atI (as.map V.ref) (0 + (i : Int) + 1 + (j : Int) + 1 + (u : Int)) = some (V.ref a3) := by rw [show 0 + (i : Int) + 1 + (j : Int) + 1 + (u : Int) = ((i + 1 + j + 1 + u : Nat) : Int) by lia]; exact Bx ha3
     have o1 := ok _ (zV hi')
     have o2 := ok _ (zV hj')
     have o3 := ok _ (zV hk')
     have g1 := Bi ha (z4 hi') (z4 hj') (by lia)
     have g2 := Bi ha (z4 hj') (z4 hk') (by lia)
     have sl4 := t4.seq sl
     walk_at "RD"
     walk_at "AUTO"
     unfold Nr
     refine ⟨_, _, _, gs[i], gs[i + 1 + j], gs[i + 1 + j + 1 + u], rfl, SqT.of t1, SqT.of t2, SqT.of t3, o1, o2, o3, g1, g2, fun H5 s5 => ?_⟩
     have t5 := t4.trans s5
     have e1 := s5.get t1
     have e2 := s5.get t2
     have e3 := s5.get t3
     have sl5 := s5.seq sl4
     refine ⟨rfl, ?_⟩
     by_cases hb : NP gs[i] gs[i + 1 + j] gs[i + 1 + j + 1 + u]
     ·rw [za (fun z => Q5.mp (V.str.inj z) hb)]
      walk_at "AUTO"
      exact kk p H' [gs[i].p, gs[i + 1 + j].p, gs[i + 1 + j + 1 + u].p] (s1.trans (t5.trans hs)) he (by simp) (.perm (.yes gs (zx _) ha i (i + 1 + j) (i + 1 + j + 1 + u) _ _ _ ⟨⟨by lia, by lia, _, _, _, z4 hi', z4 hj', z4 hk', hb⟩, n3⟩ (z4 hi') (z4 hj') (z4 hk') rfl) hp)
     ·rw [z8 (congrArg V.str (Q5.mpr hb))]
      refine ⟨_, rfl, t5, Wt n3 fun ⟨_, _, a, b, c, f1, f2, f3, f4⟩ => hb ?_⟩
      rw [z4 hi'] at f1
      rw [z4 hj'] at f2
      have f3 : gs[i + 1 + j + 1 + u]? = some c := f3
      rw [z4 hk'] at f3
      cases f1
      cases f2
      cases f3
      exact f4
    ·rintro σ H4 ⟨z, rfl, t4, n3⟩
     exact ⟨_, _, rfl, t4, UL (by lia) n3⟩
   ·rintro σ H3 ⟨y, z, rfl, t3, n2⟩
    exact ⟨_, _, _, rfl, t3, Rv (by lia) n2⟩
  ·rintro σ H2 ⟨x, y, z, rfl, t2, n1⟩
   walk_at "RD"
   exact kn _ (s1.trans t2) (.perm (.no gs (zx _) ha (na_no n1) rfl) hp)
theorem Az : AR ["one", "two", "divisor", "rest", "next_rest"] ["one", "two"] (AG CK) := by walk_at "SC"
noncomputable def Dd : Sp := fun vs H Q _ => ∃ a b : Int, vs = [.int a, .int b] ∧ 0 ≤ a ∧ 0 ≤ b ∧ Q (.int (Int.gcd a b)) H
noncomputable def W_gd (a b : Int) (H : Hp) : Nat → St → Hp → Prop := fun m σ H' => ∃ (d r : Int) (x : Option V), m = r.toNat ∧ σ = [some (.int a), some (.int b), some (.int d), some (.int r), x] ∧ H' = H ∧ 0 ≤ d ∧ 0 ≤ r ∧ Int.gcd d r = Int.gcd a b
theorem IM (T : Tx K mg) : Af P w K mg base CX0 1 T.EL T.De ["one", "two"] Dd := by
 refine T.EI.F.ok Az (fun _ _ _ _ h => by walk_at "LN") ?_
 ·walk_at "I2"
  obtain ⟨a, b, rfl, ha, hb, k⟩ := h
  refine ⟨_, (AD (pst 2 Az (pv 0))
   (AD (pst 3 Az (pv 1))
   (AD (VA PassesOwn.never (ptc GK (pv 3) AB)
    (AD (pst 4 Az (AF WZ (pv 2) (pv 3)))
     (AD (pst 2 Az (pv 3))
     (AE (pst 3 Az (pv 4))))))
   (AE (AK (pv 2)))))), ?_⟩
  walk_at "RD"
  refine ⟨W_gd a b H, ⟨_, a, b, none, rfl, rfl, rfl, ha, hb, rfl⟩, ?_⟩
  rintro m σ H' ⟨d, r, x, rfl, rfl, rfl, hd, hr', e⟩
  walk_at "RDE"
  by_cases h0 : r = 0
  ·subst h0
   simp only [decide_true, Bool.not_true, zn, if_false]
   walk_at "RD"
   rw [← e, Ua hd] at k
   exact k
  ·simp only [h0, decide_false, Bool.not_false, if_true]
   refine ⟨_, fun _ _ h => h, ?_⟩
   walk_at "RD"
   have hp : 0 < r := by lia
   have hf := WR (d := d) hp
   refine ⟨h0, _, ?_, r, d.fmod r, _, rfl, rfl, rfl, hr', hf.1, (Vv hd hp).trans e⟩
   lia
theorem LD : AR ["top", "bottom", "divisor"] ["top", "bottom"] (AG NE) := by walk_at "SC"
noncomputable def IJ : Sp := fun vs H Q _ => ∃ t b : Int, vs = [.int t, .int b] ∧ b ≠ 0 ∧ Sm b ∧ ∀ p H' x y, AI H H' → H' p = some (.tup [.int x, .int y]) → FD t b x y → Q (.ref p) H'
noncomputable def C_lo (t b : Int) (H : Hp) : St → Hp → Prop := fun σ H' => ∃ d : Int, σ = [some (.int t), some (.int b), some (.int d)] ∧ H' = H ∧ d = if b < 0 then -((Int.gcd t b : Nat) : Int) else ((Int.gcd t b : Nat) : Int)
theorem Lb (T : Tx K mg) : Af P w K mg base CX0 2 T.Q2 T.O1 ["top", "bottom"] IJ := by
 refine T.Kc.F.ok LD (fun _ _ _ _ h => by walk_at "LN") ?_
 ·walk_at "I2"
  obtain ⟨t, b, rfl, hb, hs, k⟩ := h
  refine ⟨_, (AD (pst 2 LD (pcl T.EI (IM T) hr AW (AA (AH HK (by rfl) T.Rf NT (AA (pv 0) AC)) (AA (AH HK (by rfl) T.Rf NT (AA (pv 1) AC)) AC))))
   (BB (AY (ptc Ee (pv 1) AB) (AE (pst 2 LD (Ci Bp (pv 2))))
    AO)
   (AE (AK (AZ (AA (AF RP (pv 0) (pv 2)) (AA (AF RP (pv 1) (pv 2)) AC))))))), ?_⟩
  delta Dd
  refine ⟨by split <;> lia, by split <;> lia, C_lo t b H, ?_, ?_⟩
  ·rw [WO]
   walk_at "RD"
   by_cases hn : b < 0
   ·rw [if_pos (z8 hn)]
    exact ⟨_, rfl, rfl, by rw [if_pos hn]⟩
   ·rw [if_neg (by simp [hn])]
    exact ⟨_, rfl, rfl, by rw [if_neg hn]⟩
  ·rintro σ' H' ⟨d, rfl, rfl, hd⟩
   obtain ⟨L, d0⟩ := Yu hb hd
   have ds : Sm d := by
    refine Nat.lt_of_le_of_lt ?_ hs
    have h1 : d.natAbs = Int.gcd t b := by rw [hd]; split <;> lia
    rw [h1]
    exact Nat.le_of_dvd (by lia) (Int.gcd_dvd_natAbs_right t b)
   walk_at "RD"
   exact ⟨d0, ds, d0, ds, by decide, fun p H1 hp hs he => k p _ _ _ hs he L⟩
theorem Je : AR ["one", "two", "left", "right"] ["one", "two"] (AG LQ) := by walk_at "SC"
noncomputable def Ny (x y : Int) : Int := if x < y then -1 else if y < x then 1 else 0
noncomputable def Jl (K : W.Frag) : Sp := fun vs H Q _ => ∃ (p q : Addr) (a b c d : Int), vs = [.ref p, .ref q] ∧ SqT K H p [.int a, .int b] ∧ SqT K H q [.int c, .int d] ∧ Sm a ∧ Sm b ∧ Sm c ∧ Sm d ∧ Q (.int (Ny (a * d) (c * b))) H
theorem Jh (T : Tx K mg) : Af P w K mg base CX0 1 T.Pg T.N0 ["one", "two"] (Jl K) := by
 refine T.IG.F.ok Je (fun _ _ _ _ h => by walk_at "LN") ?_
 ·walk_at "I2"
  obtain ⟨p, q, a, b, c, d, rfl, h1, h2, sa, sb, sc, sd, k⟩ := h
  refine ⟨_, (AD (pst 2 Je (AF C7 (pxi AS (pv 0) AB) (pxi AS (pv 1) AB)))
   (AD (pst 3 Je (AF C7 (pxi AS (pv 1) AB) (pxi AS (pv 0) AB)))
   (AD (AY (ptc Ee (pv 2) (pv 3)) (AE (AK (Ci Bp AB)))
    AO)
   (AD (AY (ptc DI (pv 2) (pv 3)) (AE (AK AB))
    AO)
   (AE (AK AB)))))), ?_⟩
  walk_at "RD"
  walk_at "AUTO"
  unfold Ny at k
  by_cases c1 : a * d < c * b
  ·simp only [c1, decide_true, if_true] at k ⊢
   exact k
  ·by_cases c2 : c * b < a * d
   ·simp only [c1, c2, decide_true, decide_false, zn, if_true, if_false] at k ⊢
    exact k
   ·simp only [c1, c2, decide_true, decide_false, zn, if_true, if_false] at k ⊢
    exact k
theorem CB : AR ["throw", "place", "height_top", "height_bottom", "rise_top", "rise_bottom", "top"] ["throw", "place"] (AG G9) := by walk_at "SC"
noncomputable def Kk (K : W.Frag) : Sp := fun vs H Q _ => ∃ (p : Addr) (pl a b c d : Int), vs = [.ref p, .int pl] ∧ SqT K H p [.int a, .int b, .int c, .int d] ∧ 0 < b ∧ 0 < d ∧ Md a ∧ Md b ∧ Md c ∧ Md d ∧ Md pl ∧ ∀ q H' x y, AI H H' → H' q = some (.tup [.int x, .int y]) → FD (a * d + pl * c * b) (b * d) x y → Q (.ref q) H'
theorem QY (T : Tx K mg) : Af P w K mg base CX0 3 T.L6 T.K1 ["throw", "place"] (Kk K) := by
 refine T.ME.F.ok CB (fun _ _ _ _ h => by walk_at "LN") ?_
 ·walk_at "I2"
  obtain ⟨p, pl, a, b, c, d, rfl, h1, hb, hd, ma, mb, mc, md, mp, k⟩ := h
  refine ⟨_, (AD (pst 2 CB (pxi AS (pv 0) AB))
   (AD (pst 3 CB (pxi AS (pv 0) AB))
   (AD (pst 4 CB (pxi AS (pv 0) AB))
   (AD (pst 5 CB (pxi AS (pv 0) AB))
   (AD (pst 6 CB (AF Ag (AF C7 (pv 2) (pv 5)) (AF C7 (AF C7 (pv 1) (pv 4)) (pv 3))))
   (AE (AK (pcl T.Kc (Lb T) hr AW (AA (pv 6) (AA (AF C7 (pv 3) (pv 5)) AC)))))))))), ?_⟩
  have sa := ma.sm
  have sb := mb.sm
  have sc := mc.sm
  have sd := md.sm
  have sp := mp.sm
  have s2 := mp.mulS mc
  have s3 := mb.mulS md
  have hne : b * d ≠ 0 := Int.mul_ne_zero (by lia) (by lia)
  walk_at "Q"
  walk_at "RD"
  walk_at "AUTO"
  walk_at "NX"
  walk_at "Q"
  walk_at "RD"
  walk_at "AUTO"
  walk_at "NX"
  walk_at "Q"
  walk_at "RD"
  walk_at "AUTO"
  walk_at "NX"
  walk_at "Q"
  walk_at "RD"
  walk_at "AUTO"
  walk_at "NX"
  walk_at "Q"
  walk_at "RD"
  walk_at "AUTO"
  walk_at "NX"
  delta IJ
  walk_at "AUTO"
  exact fun q H' x y s e L => k q H' x y s e L
theorem EJ : AR ["place", "height", "other", "second", "steps", "gain", "start", "rise"] ["place", "height", "other", "second"] (AG LR) := by walk_at "SC"
noncomputable def Jb : Sp := fun vs H Q _ => ∃ p0 h0 p1 h1 : Int, vs = [.int p0, .int h0, .int p1, .int h1] ∧ p0 ≠ p1 ∧ p0.natAbs ≤ 10 ^ 30 ∧ h0.natAbs ≤ 10 ^ 30 ∧ p1.natAbs ≤ 10 ^ 30 ∧ h1.natAbs ≤ 10 ^ 30 ∧
 ∀ q H' x y z v, AI H H' → H' q = some (.tup [.int x, .int y, .int z, .int v]) → FD (h0 * (p1 - p0) - p0 * (h1 - h0)) (p1 - p0) x y → FD (h1 - h0) (p1 - p0) z v → Q (.ref q) H'
theorem NG (T : Tx K mg) : Af P w K mg base CX0 3 T.PN T.Mb ["place", "height", "other", "second"] Jb := by
 refine T.Ln.F.ok EJ (fun _ _ _ _ h => by walk_at "LN") ?_
 ·walk_at "I2"
  obtain ⟨p0, h0, p1, h1, rfl, hne, b0, b1, b2, b3, k⟩ := h
  refine ⟨_, (AD (pst 4 EJ (AF Aa (pv 2) (pv 0)))
   (AD (pst 5 EJ (AF Aa (pv 3) (pv 1)))
   (AD (pst 6 EJ (pcl T.Kc (Lb T) hr AW (AA (AF Aa (AF C7 (pv 1) (pv 4)) (AF C7 (pv 0) (pv 5))) (AA (pv 4) AC))))
   (AD (pst 7 EJ (pcl T.Kc (Lb T) hr AW (AA (pv 5) (AA (pv 4) AC))))
   (AE (AK (AZ (AA (pxi AS (pv 6) AB) (AA (pxi AS (pv 6) AB) (AA (pxi AS (pv 7) AB) (AA (pxi AS (pv 7) AB) AC))))))))))), ?_⟩
  have hs : p1 - p0 ≠ 0 := by lia
  have m1 : Sm (p1 - p0) := Sm.of (n := 10 ^ 31) (by lia) (by decide +kernel)
  have m2 : Sm (h1 - h0) := Sm.of (n := 10 ^ 31) (by lia) (by decide +kernel)
  have m3 : Sm p0 := Sm.of b0 (by decide +kernel)
  have m4 : Sm h0 := Sm.of b1 (by decide +kernel)
  walk_at "Q"
  walk_at "RD"
  walk_at "NX"
  walk_at "Q"
  walk_at "RD"
  walk_at "NX"
  walk_at "Q"
  delta IJ
  walk_at "AUTO"
  intro q1 H1 x y s1 e1 Lw1
  walk_at "NX"
  walk_at "Q"
  delta IJ
  walk_at "AUTO"
  intro q2 H2 z v s2 e2 Lw2
  walk_at "NX"
  walk_at "RD"
  walk_at "AUTO"
  exact k _ _ _ _ _ _ (by walk_at "SAME6") (by assumption) Lw1 Lw2
theorem ID : AR ["throw", "gate", "height", "foot", "head"] ["throw", "gate"] (AG NJ) := by walk_at "SC"
noncomputable def Pj (K : W.Frag) : Sp := fun vs H Q _ => ∃ (p g : Addr) (a b c d pl f h : Int), vs = [.ref p, .ref g] ∧ SqT K H p [.int a, .int b, .int c, .int d] ∧ SqT K H g [.int pl, .int f, .int h] ∧ 0 < b ∧ 0 < d ∧ a.natAbs ≤ 10 ^ 15 ∧ b.natAbs ≤ 10 ^ 15 ∧ c.natAbs ≤ 10 ^ 15 ∧ d.natAbs ≤ 10 ^ 15 ∧ pl.natAbs ≤ 10 ^ 15 ∧ f.natAbs ≤ 10 ^ 15 ∧ h.natAbs ≤ 10 ^ 15 ∧ ∀ H', AI H H' → Q (.bl (decide (Pas a b c d pl f h))) H'
theorem O9 (T : Tx K mg) : Af P w K mg base CX0 4 T.Q7 T.Pl ["throw", "gate"] (Pj K) := by
 refine T.Nb.F.ok ID (fun _ _ _ _ h => by walk_at "LN") ?_
 ·walk_at "I2"
  obtain ⟨p, g, a, b, c, d, pl, f, h, rfl, hp, hg, hb, hd, b1, b2, b3, b4, b5, b6, b7, k⟩ := h
  refine ⟨_, (AD (pst 2 ID (pcl T.ME (QY T) hr AW (AA (pv 0) (AA (pxi AS (pv 1) AB) AC))))
   (AD (pst 3 ID (AZ (AA (pxi AS (pv 1) AB) (AA AB AC))))
   (AD (pst 4 ID (AZ (AA (pxi AS (pv 1) AB) (AA AB AC))))
   (AE (AK (Nh (pec Qr (pcl T.IG (Jh T) hr AW (AA (pv 3) (AA (pv 2) AC))) AB) (Pr (pec Qr (pcl T.IG (Jh T) hr AW (AA (pv 2) (AA (pv 4) AC))) AB)))))))), ?_⟩
  have md : ∀ {i : Int}, i.natAbs ≤ 10 ^ 15 → Md i := fun h => zT h (by decide +kernel)
  walk_at "Q"
  delta Kk
  walk_at "AUTO"
  refine ⟨a, b, c, d, hp, hb, hd, md b1, md b2, md b3, md b4, md b5, fun q H1 x y s1 e1 L => ?_⟩
  have bd := CL b2 b4
  have bt1 := CL b1 b4
  have bt2 := CL (CL b5 b3) b2
  have bt : (a * d + pl * c * b).natAbs ≤ 10 ^ 46 := by lia
  have sx : Sm x := Sm.of (zT L.absx bt) (by decide +kernel)
  have sy : Sm y := Sm.of (zT L.absy bd) (by decide +kernel)
  have sf : Sm f := Sm.of b6 (by decide +kernel)
  have sh : Sm h := Sm.of b7 (by decide +kernel)
  have s0 : Sm 1 := by unfold Sm; decide +kernel
  have E := L.eq
  have hy := L.pos
  have hbd : 0 < b * d := Int.mul_pos hb hd
  walk_at "NX"
  walk_at "Q"
  walk_at "RD"
  walk_at "AUTO"
  walk_at "NX"
  walk_at "Q"
  walk_at "RD"
  walk_at "AUTO"
  walk_at "NX"
  delta Jl
  walk_at "AUTO"
  refine ⟨f, 1, (by walk_at "SQT4"), x, y, (by walk_at "SQT4"), sf, s0, sx, sy, ?_⟩
  have c1 : (Ny (f * y) (x * 1) ≤ 0) ↔ f * (b * d) ≤ a * d + pl * c * b := by
   rw [Int.mul_one]
   have e : Ny (f * y) x ≤ 0 ↔ f * y ≤ x := by unfold Ny; split <;> (try split) <;> lia
   rw [e]
   generalize a * d + pl * c * b = t at *
   generalize b * d = u at *
   exact WV hy hbd E
  have c2 : (Ny (x * 1) (h * y) ≤ 0) ↔ a * d + pl * c * b ≤ h * (b * d) := by
   rw [Int.mul_one]
   have e : Ny x (h * y) ≤ 0 ↔ x ≤ h * y := by unfold Ny; split <;> (try split) <;> lia
   rw [e]
   generalize a * d + pl * c * b = t at *
   generalize b * d = u at *
   exact WL hy hbd E
  by_cases g1 : f * (b * d) ≤ a * d + pl * c * b
  ·rw [if_pos (z8 (c1.mpr g1))]
   refine ⟨x, y, (by walk_at "SQT4"), h, 1, (by walk_at "SQT4"), sx, sy, sh, s0, ?_⟩
   have e : decide (Ny (x * 1) (h * y) ≤ 0) = decide (Pas a b c d pl f h) := by
    unfold Pas
    simp only [c2, g1, true_and]
   rw [e]
   exact k _ (by walk_at "SAME5")
  ·rw [if_neg (by simp only [decide_eq_true_eq]; exact fun z => g1 (c1.mp z))]
   have e : decide (Pas a b c d pl f h) = false := by
    unfold Pas
    simp only [g1, false_and, decide_false]
   rw [e] at k
   exact k _ (by walk_at "SAME5")
theorem Oa : AR ["throw", "gates"] ["throw", "gates"] (AG GD) := by walk_at "SC"
noncomputable def JS (K : W.Frag) : Sp := fun vs H Q _ => ∃ (q l : Addr) (t : Thr) (as : List Addr) (gs : List G), vs = [.ref q, .ref l] ∧ SqT K H q t.vs ∧ SqL K H l (as.map V.ref) ∧ Ak H as gs ∧ OkT t ∧ gs.length ≤ 1000 ∧ (∀ g ∈ gs, OkG g) ∧ ∀ H', AI H H' → Q (.bl (decide (∀ g ∈ gs, t.pas g))) H'
theorem Oe (T : Tx K mg) : Af P w K mg base CX0 5 T.KY T.Iu ["throw", "gates"] (JS K) := by
 refine T.K2.F.ok Oa (fun _ _ _ _ h => by walk_at "LN") ?_
 ·walk_at "I2"
  obtain ⟨q, l, t, as, gs, rfl, hq, hl, ga, ot, hz, ok, k⟩ := h
  refine ⟨_, (AE (AK (AH (VB (by rfl)) (by rfl) T.z_all Zt (AA (F6 rfl (⟨rfl, by decide +kernel, by decide +kernel, by decide +kernel, rfl, by decide +kernel, by with_unfolding_all rfl, by rfl, by rfl, by rfl⟩ : BF _ _ "gate" ["throw"] [0]) (B4 (pv 1)) (fun _ _ _ _  => (pcl T.Nb (O9 T) hr AW (AA (pv 1) (AA (pv 0) AC)))) (fun _ _ _ _ => Fj)) AC)))), ?_⟩
  delta KJ
  walk_at "AUTO"
  intro D nD
  refine PM (F := fun _ v g => v = V.bl (decide (t.pas g))) (fun _ _ _ _ _ h => h) (fun _ _ _ _ _ _ h => h) hl ga nD hz ?_ ?_
  ·intro v g H1 R hg s1 ev hR
   obtain ⟨p1, p2, p3, p4, p5⟩ := ok g hg
   delta qA
   walk_at "AUTO"
   unfold Pj
   refine ⟨_, _, t.a, t.b, t.c, t.d, g.p, g.f, g.h, rfl, s1.tup hq, SqT.of ev, ot.b0, ot.d0, zT ot.a1 (by decide), zT ot.b1 (by decide), zT ot.c1 (by decide), zT ot.d1 (by decide), by lia, by lia, by lia, fun H2 s2 => hR _ _ s2 rfl⟩
  ·intro H1 ys s1 e1 pr
   have ey := Paired.eq_map pr
   subst ey
   refine ⟨gs.map fun g => decide (t.pas g), SqL.of (by rw [e1, qN]; rfl), ?_⟩
   have e : (gs.map fun g => decide (t.pas g)).all id = decide (∀ g ∈ gs, t.pas g) := by
    rw [Bool.eq_iff_iff]
    simp
   rw [e]
   exact k _ s1
theorem LK : AR ["throw", "ordered"] ["throw", "ordered"] (AG DJ) := by walk_at "SC"
noncomputable def LS (K : W.Frag) : Sp := fun vs H Q _ => ∃ (q l : Addr) (a b c d : Int) (as : List Addr) (gs : List G), vs = [.ref q, .ref l] ∧ H q = some (.tup [.int a, .int b, .int c, .int d]) ∧ ¬ RD a b c d ∧ SqL K H l (as.map V.ref) ∧ Ak H as gs ∧ gs.length ≤ 40 ∧ (∀ g ∈ gs, OkG g) ∧ ∀ D H', H D = none → AI H H' → H' D = some (.lst ((AT (gs.filter (Jk a b c d))).map V.int)) → Q (.ref D) H'
theorem FI (T : Tx K mg) : Af P w K mg base CX0 5 T.Gc T.FR ["throw", "ordered"] (LS K) := by
 refine T.DK.F.ok LK (fun _ _ _ _ h => by walk_at "LN") ?_
 ·walk_at "I2"
  obtain ⟨q, l, a, b, c, d, as, gs, rfl, hq, nb, hl, ga, l40, ok, k⟩ := h
  refine ⟨_, (AE (AK (F6 rfl (⟨rfl, by decide +kernel, by decide +kernel, by decide +kernel, rfl, by decide +kernel, by with_unfolding_all rfl, by rfl, by rfl, by rfl⟩ : BF _ _ "gate" ["throw"] [0]) (B4 (pv 1)) (fun _ _ _ _  => (pxi (Km (K := K) rfl) (pv 0) AB)) (fun _ _ _ _ => (TX (Bb (pcl T.Nb (O9 T) hr AW (AA (pv 1) (AA (pv 0) AC))))))))), ?_⟩
  have h1 : ¬ b < 1 := fun z => nb (.inl z)
  have h2 : ¬ d < 1 := fun z => nb (.inr (.inl z))
  have h3 : ∀ x ∈ [a, b, c, d], x.natAbs ≤ 10 ^ 15 := fun x hx => by
   have h4 : ¬ x < -999999999 := fun z => nb (.inr (.inr ⟨x, hx, .inl z⟩))
   have h5 : ¬ 999999999 < x := fun z => nb (.inr (.inr ⟨x, hx, .inr z⟩))
   lia
  delta KJ
  refine ⟨⟨_, hl⟩, fun D nD => ?_⟩
  refine Pq (Jk a b c d) (fun g => V.int g.p) hl ga nD (by lia) (fun v g H1 R hg s1 ev hR => ?_) (fun v g H1 R hg s1 ev hR => ?_) fun H1 s1 e1 => ?_
  ·have og := ok g hg
   have o1 := og.p0
   have o2 := og.p1
   have o3 := og.f0
   have o4 := og.fh
   have o5 := og.h1
   delta qA
   refine ⟨q, v, a, b, c, d, g.p, g.f, g.h, rfl, SqT.of (s1.get hq), SqT.of ev, by lia, by lia, h3 a (by simp), h3 b (by simp), h3 c (by simp), h3 d (by simp), by lia, by lia, by lia, fun H2 s2 => ⟨_, rfl, hR H2 s2⟩⟩
  ·delta qA
   exact ⟨_, SqT.of ev, _, rfl, hR⟩
  ·exact k D H1 nD s1 (by rw [e1, qN]; rfl)
theorem MJ : AR ["earlier", "later"] ["earlier", "later"] (AG EE) := by walk_at "SC"
noncomputable def GN (K : W.Frag) : Sp := fun vs H Q _ => ∃ (a b : Addr) (x y : G), vs = [.ref a, .ref b] ∧ SqT K H a (G.vs x) ∧ SqT K H b (G.vs y) ∧ OkG x ∧ OkG y ∧ ∀ D H', AI H H' → H' D = some (.tup [.int (y.h - x.f), .int (y.p - x.p)]) → Q (.ref D) H'
theorem Gd (T : Tx K mg) : Af P w K mg base CX0 1 T.G7 T.GV ["earlier", "later"] (GN K) := by
 refine T.EB.F.ok MJ (fun _ _ _ _ h => by walk_at "LN") ?_
 ·walk_at "I2"
  obtain ⟨a, b, x, y, rfl, ha, hb, o1, o2, k⟩ := h
  refine ⟨_, (AE (AK (AZ (AA (AF Aa (pxi AS (pv 1) AB) (pxi AS (pv 0) AB)) (AA (AF Aa (pxi AS (pv 1) AB) (pxi AS (pv 0) AB)) AC))))), ?_⟩
  obtain ⟨p1, p2, p3, p4, p5⟩ := id o1
  obtain ⟨q1, q2, q3, q4, q5⟩ := id o2
  walk_at "RD"
  walk_at "AUTO"
  exact k _ _ hs he
theorem BD : AR ["ordered", "pair", "index", "earlier", "later"] ["ordered"] (AG DN) := by walk_at "SC"
structure Ld (H : Hp) (D : Addr) (gs : List G) (ax ay : Addr) (x y : G) : Prop where
 eD : H D = some (.tup [.ref ax, .ref ay])
 ex : H ax = some (.tup (G.vs x))
 ey : H ay = some (.tup (G.vs y))
 hx : x ∈ gs
 hy : y ∈ gs
 lt : x.p < y.p
theorem Ld.same {H H' : Hp} {D : Addr} {gs : List G} {ax ay : Addr} {x y : G} (h : Ld H D gs ax ay x y) (s : AI H H') : Ld H' D gs ax ay x y := ⟨s.get h.eD, s.get h.ex, s.get h.ey, h.hx, h.hy, h.lt⟩
noncomputable def LeAll (gs : List G) (x y : G) (i j : Nat) : Prop := ∀ i' j' u v, i' < j' → gs[i']? = some u → gs[j']? = some v → (i' < i ∨ (i' = i ∧ j' < j)) → LeR x y u v
structure Da (gs : List G) (x y : G) (i j : Nat) : Prop where
 le : LeAll gs x y i j
 first : ∀ i' j' u v, i' < j' → gs[i']? = some u → gs[j']? = some v → (i' < i ∨ (i' = i ∧ j' < j)) → LeR u v x y → (x.p < u.p ∨ (x.p = u.p ∧ y.p ≤ v.p))
 pos : ∃ a b : Nat, gs[a]? = some x ∧ gs[b]? = some y ∧ ((a = 0 ∧ b = 1) ∨ a < i ∨ (a = i ∧ b < j))
theorem X7 {gs : List G} (ha : Asc gs) {i j : Nat} {x y : G} (hx : gs[i]? = some x) (hy : gs[j]? = some y) (h : i ≤ j) : x.p ≤ y.p := by
 rcases Nat.lt_or_eq_of_le h with z | z
 ·have := Bi ha hx hy z; lia
 ·subst z; rw [hx] at hy; cases hy; lia
theorem Da.skip {gs : List G} {x y u v : G} {i j : Nat} (ha : Asc gs) (h : Da gs x y i (i + 1 + j)) (gu : gs[i]? = some u) (gv : gs[i + 1 + j]? = some v) (hb : LeR x y u v) : Da gs x y i (i + 1 + (j + 1)) := by
 obtain ⟨a, b, ga, gb, hp⟩ := h.pos
 refine ⟨fun i' j' u' v' h1 h2 h3 h4 => ?_, fun i' j' u' v' h1 h2 h3 h4 h5 => ?_, a, b, ga, gb, by lia⟩
 ·rcases (by lia : (i' < i ∨ (i' = i ∧ j' < i + 1 + j)) ∨ (i' = i ∧ j' = i + 1 + j)) with z | ⟨rfl, rfl⟩
  ·exact h.le i' j' u' v' h1 h2 h3 z
  ·cases gu.symm.trans h2
   cases gv.symm.trans h3
   exact hb
 ·rcases (by lia : (i' < i ∨ (i' = i ∧ j' < i + 1 + j)) ∨ (i' = i ∧ j' = i + 1 + j)) with z | ⟨rfl, rfl⟩
  ·exact h.first i' j' u' v' h1 h2 h3 z h5
  ·by_cases hl : a < i'
   ·exact .inl (Bi ha ga h2 hl)
   ·have e : a = i' := by lia
    subst e
    rw [ga] at h2
    cases h2
    exact .inr ⟨rfl, X7 ha gb h3 (by lia)⟩
theorem Da.take {gs : List G} {x y u v : G} {i j : Nat} (ha : Asc gs) (lxy : x.p < y.p) (h : Da gs x y i (i + 1 + j)) (gu : gs[i]? = some u) (gv : gs[i + 1 + j]? = some v) (hb : ¬ LeR x y u v) : Da gs u v i (i + 1 + (j + 1)) := by
 have luv := Bi ha gu gv (by lia)
 have lt' : LeR u v x y := by
  unfold LeR at hb ⊢
  rw [Int.not_le] at hb
  exact qB hb
 refine ⟨fun i' j' u' v' h1 h2 h3 h4 => ?_, fun i' j' u' v' h1 h2 h3 h4 h5 => ?_, i, i + 1 + j, gu, gv, by lia⟩
 ·rcases (by lia : (i' < i ∨ (i' = i ∧ j' < i + 1 + j)) ∨ (i' = i ∧ j' = i + 1 + j)) with z | ⟨rfl, rfl⟩
  ·exact LeR.trans luv lxy (Bi ha h2 h3 h1) lt' (h.le i' j' u' v' h1 h2 h3 z)
  ·cases gu.symm.trans h2
   cases gv.symm.trans h3
   exact LeR.refl u v
 ·rcases (by lia : (i' < i ∨ (i' = i ∧ j' < i + 1 + j)) ∨ (i' = i ∧ j' = i + 1 + j)) with z | ⟨rfl, rfl⟩
  ·exact absurd (LeR.trans lxy (Bi ha h2 h3 h1) luv (h.le i' j' u' v' h1 h2 h3 z) h5) hb
  ·cases gu.symm.trans h2
   cases gv.symm.trans h3
   exact .inr ⟨rfl, Int.le_refl _⟩
theorem Da.row {gs : List G} {x y : G} {i : Nat} (h : Da gs x y i 0) : Da gs x y i (i + 1 + 0) :=
 ⟨fun i' j' u v h1 h2 h3 h4 => h.le i' j' u v h1 h2 h3 (by lia), fun i' j' u v h1 h2 h3 h4 => h.first i' j' u v h1 h2 h3 (by lia), let ⟨a, b, ga, gb, hp⟩ := h.pos; ⟨a, b, ga, gb, by lia⟩⟩
theorem Da.next {gs : List G} {x y : G} {i n : Nat} (hn : i + 1 + n = gs.length) (h : Da gs x y i (i + 1 + n)) : Da gs x y (i + 1) 0 :=
 ⟨fun i' j' u v h1 h2 h3 h4 => h.le i' j' u v h1 h2 h3 (by have := (zA.mp h3).1; lia), fun i' j' u v h1 h2 h3 h4 => h.first i' j' u v h1 h2 h3 (by have := (zA.mp h3).1; lia), let ⟨a, b, ga, gb, hp⟩ := h.pos; ⟨a, b, ga, gb, by lia⟩⟩
theorem Da.out {gs : List G} {x y : G} (ha : Asc gs) (h : Da gs x y gs.length 0) : (∀ x' ∈ gs, ∀ y' ∈ gs, x'.p < y'.p → LeR x y x' y') ∧ P9 gs x y := by
 refine ⟨fun x' hx' y' hy' lt' => ?_, fun x' hx' y' hy' lt' hl => ?_⟩
 all_goals
  obtain ⟨i', hi', rfl⟩ := List.getElem_of_mem hx'
  obtain ⟨j', hj', rfl⟩ := List.getElem_of_mem hy'
  have q1 := z4 hi'
  have q2 := z4 hj'
 ·exact h.le i' j' _ _ (E9 ha q1 q2 lt') q1 q2 (by lia)
 ·exact h.first i' j' _ _ (E9 ha q1 q2 lt') q1 q2 (by lia) hl
noncomputable def Fi (K : W.Frag) : Sp := fun vs H Q _ => ∃ (l : Addr) (as : List Addr) (gs : List G), vs = [.ref l] ∧ SqL K H l (as.map V.ref) ∧ Ak H as gs ∧ Asc gs ∧ 2 ≤ gs.length ∧ gs.length ≤ 1000 ∧ (∀ g ∈ gs, OkG g) ∧ ∀ D H' ax ay x y, AI H H' → Ld H' D gs ax ay x y → (∀ x' ∈ gs, ∀ y' ∈ gs, x'.p < y'.p → LeR x y x' y') → P9 gs x y → Q (.ref D) H'
noncomputable def Wt1 (l : Addr) (gs : List G) (H : Hp) : Nat → St → Hp → Prop := fun i σ H' => ∃ D ax ay x y o1 o2 o3, σ = [some (.ref l), some (.ref D), o1, o2, o3] ∧ AI H H' ∧ Ld H' D gs ax ay x y ∧ Da gs x y i 0
noncomputable def Wt2 (l ea : Addr) (gs : List G) (H : Hp) (i : Nat) : Nat → St → Hp → Prop := fun j σ H' => ∃ D ax ay x y o3, σ = [some (.ref l), some (.ref D), some (.int (i : Int)), some (.ref ea), o3] ∧ AI H H' ∧ Ld H' D gs ax ay x y ∧ Da gs x y i (i + 1 + j)
theorem Lf (T : Tx K mg) : Af P w K mg base CX0 2 T.GX T.FG ["ordered"] (Fi K) := by
 refine T.GP.F.ok BD (fun _ _ _ _ h => by walk_at "LN") ?_
 ·walk_at "I2"
  obtain ⟨l, as, gs, rfl, hl, ga, ha, l2, hz, ok, k⟩ := h
  refine ⟨_, (AD (pst 1 BD (AZ (AA (pxi AM (pv 0) AB) (AA (pxi AM (pv 0) AB) AC))))
   (AD (BO PassesOwn.never rfl (TH (by rfl) T.L4 (AA (pv 0) AC)) (Fx (n := 2) rfl (Ai (pgn 2 BD) (Ai (pgn 3 BD) C4)))
    (AE (BO PassesOwn.never rfl (B4 (FC FL (pv 0) (IB (AF Ag (pv 2) AB)) Hy)) (pgn 4 BD)
      (AE (AY (ptc Ee (pcl T.IG (Jh T) hr AW (AA (pcl T.EB (Gd T) hr AW (AA (pv 3) (AA (pv 4) AC))) (AA (pcl T.EB (Gd T) hr AW (AA (pxi AS (pv 1) AB) (AA (pxi AS (pv 1) AB) AC))) AC))) AB) (AE (pst 1 BD (AZ (AA (pv 3) (AA (pv 4) AC)))))
        AO)))))
   (AE (AK (pv 1))))), ?_⟩
  have la := ga.len
  have h0 : 0 < gs.length := by lia
  have h1 : 1 < gs.length := by lia
  obtain ⟨a0, f0, e0⟩ := ga.get (z4 h0)
  obtain ⟨a1, f1, e1⟩ := ga.get (z4 h1)
  have i0 : atI (as.map V.ref) 0 = some (V.ref a0) := Bx (i := 0) f0
  have i1 : atI (as.map V.ref) 1 = some (V.ref a1) := Bx (i := 1) f1
  walk_at "RD"
  walk_at "AUTO"
  refine ⟨_, rfl, l, rfl, ⟨_, hs.seq hl⟩, RS (xs := as.map V.ref) (Wt1 l gs H') ⟨p, a0, a1, gs[0], gs[1], none, none, none, rfl, AI.refl _, ⟨he, hs.get e0, hs.get e1, zV h0, zV h1, Bi ha (z4 h0) (z4 h1) (by lia)⟩, ⟨fun i' j' u v _ _ _ hh => by lia, fun i' j' u v _ _ _ hh => by lia, 0, 1, z4 h0, z4 h1, .inl ⟨rfl, rfl⟩⟩⟩ (fun i σ H1 _ zq => by obtain ⟨_, _, _, _, _, _, _, _, _, s1, _, _⟩ := zq; exact (hs.trans s1).seq hl) ?_ ?_⟩
  ·rintro i vv σ H1 pp H2 hx ⟨D, ax, ay, x, y, o1, o2, o3, rfl, s1, pa, le⟩ hn s2 e2
   have hi : i < gs.length := by
    have := (zA.mp hx).1
    rw [z5] at this
    lia
   obtain ⟨ea, fe, ee⟩ := ga.get (z4 hi)
   have ex : vv = V.ref ea := by
    rw [zJ, fe] at hx
    exact (zN hx).symm
   subst ex
   have s02 := hs.trans (s1.trans s2)
   have gu := z4 hi
   generalize hu0 : gs[i] = u at ee gu
   have ou := ok u (zU gu)
   delta K7 FW LV
   refine ⟨_, SqT.of e2, rfl, _, _, rfl, _, _, rfl, rfl, ?_⟩
   refine ⟨_, rfl, _, rfl, _, _, rfl, rfl, _, rfl, l, rfl, _, s02.seq hl, fun S H3 nS s3 eS => ?_⟩
   rw [show (i : Int) + 1 = ((i + 1 : Nat) : Int) by lia, PP, ← List.map_drop] at eS
   have s03 := s02.trans s3
   refine ⟨S, rfl, ⟨_, SqL.of eS⟩, HF (xs := (as.drop (i + 1)).map V.ref) (Wt2 l ea gs H3 i) ⟨D, ax, ay, x, y, o3, rfl, AI.refl _, (pa.same s2).same s3, le.row⟩ (fun j σ H4 _ zq => by obtain ⟨_, _, _, _, _, _, _, s4, _, _⟩ := zq; exact SqL.of (s4.get eS)) ?_ ?_⟩
   ·rintro j vv σ H4 hx ⟨D, ax, ay, x, y, o3, rfl, s4, pa, le⟩
    have hj : i + 1 + j < gs.length := by
     have := (zA.mp hx).1
     rw [z5, zu] at this
     lia
    obtain ⟨la', fl, el⟩ := ga.get (z4 hj)
    have ex : vv = V.ref la' := by
     rw [zJ, List.getElem?_drop, fl] at hx
     exact (zN hx).symm
    subst ex
    have s04 := s03.trans s4
    have gv := z4 hj
    generalize hv0 : gs[i + 1 + j] = v at el gv
    have ov := ok v (zU gv)
    have eu4 := s04.get ee
    have ev4 := s04.get el
    have ex4 := pa.ex
    have ey4 := pa.ey
    have eD4 := pa.eD
    have luv := Bi ha gu gv (by lia)
    have lxy := pa.lt
    have ox := ok x pa.hx
    have oy := ok y pa.hy
    walk_at "RD"
    walk_at "AUTO"
    unfold GN Jl
    refine ⟨_, _, u, v, rfl, SqT.of eu4, SqT.of ev4, ou, ov, fun D1 H5 s5 e5 => ?_⟩
    walk_at "AUTO"
    refine ⟨_, _, x, y, rfl, (by walk_at "SQT4"), (by walk_at "SQT4"), ox, oy, fun D2 H6 s6 e6 => ?_⟩
    obtain ⟨p1, p2, p3, p4, p5⟩ := id ou
    obtain ⟨q1, q2, q3, q4, q5⟩ := id ov
    obtain ⟨r1, r2, r3, r4, r5⟩ := id ox
    obtain ⟨t1, t2, t3, t4, t5⟩ := id oy
    have w1 : Sm (v.h - u.f) := Sm.of (n := 10 ^ 10) (by lia) (by decide +kernel)
    have w2 : Sm (v.p - u.p) := Sm.of (n := 10 ^ 10) (by lia) (by decide +kernel)
    have w3 : Sm (y.h - x.f) := Sm.of (n := 10 ^ 10) (by lia) (by decide +kernel)
    have w4 : Sm (y.p - x.p) := Sm.of (n := 10 ^ 10) (by lia) (by decide +kernel)
    refine ⟨_, _, _, _, _, _, rfl, SqT.of (s6.get e5), SqT.of e6, w1, w2, w3, w4, ?_⟩
    have ec : Ny ((v.h - u.f) * (y.p - x.p)) ((y.h - x.f) * (v.p - u.p)) < 0 ↔ ¬ LeR x y u v := by
     unfold Ny LeR
     rw [Int.not_le]
     split <;> (try split) <;> lia
    have s46 := s5.trans s6
    refine ⟨_, rfl, ?_⟩
    by_cases hb : LeR x y u v
    ·rw [if_neg (fun z => ec.mp (z6 z) hb)]
     exact ⟨D, ax, ay, x, y, _, rfl, s4.trans s46, pa.same s46, le.skip ha gu gv hb⟩
    ·rw [if_pos (z8 (ec.mpr hb))]
     walk_at "AUTO"
     exact ⟨p, ea, la', u, v, _, rfl, s4.trans (s46.trans hs), ⟨he, hs.get (s46.get eu4), hs.get (s46.get ev4), zU gu, zU gv, luv⟩, le.take ha lxy gu gv hb⟩
   ·rintro σ H4 ⟨D, ax, ay, x, y, o3, rfl, s4, pa, le⟩
    rw [z5, zu] at le
    exact ⟨D, ax, ay, x, y, _, _, _, rfl, s1.trans (s2.trans (s3.trans s4)), pa, le.next (by lia)⟩
  ·rintro σ H1 ⟨D, ax, ay, x, y, o1, o2, o3, rfl, s1, pa, le⟩
   rw [z5] at le
   walk_at "RD"
   rw [la] at le
   exact k D H1 ax ay x y (hs.trans s1) pa (le.out ha).1 (le.out ha).2
theorem BN : AR ["ordered", "pair", "foot_place", "head_place", "throw"] ["ordered"] (AG Cz) := by walk_at "SC"
noncomputable def Bu (K : W.Frag) : Sp := fun vs H Q _ => ∃ (l : Addr) (as : List Addr) (gs : List G), vs = [.ref l] ∧ SqL K H l (as.map V.ref) ∧ Ak H as gs ∧ Asc gs ∧ 2 ≤ gs.length ∧ gs.length ≤ 1000 ∧ (∀ g ∈ gs, OkG g) ∧ (∀ H', AI H H' → ¬ Be gs → Q .non H') ∧ ∀ D H' q t x y, AI H H' → Wk H' D gs q t x y → P9 gs x y → Q (.ref D) H'
theorem CW (T : Tx K mg) : Af P w K mg base CX0 6 T.FK T.EN ["ordered"] (Bu K) := by
 refine T.B9.F.ok BN (fun _ _ _ _ h => by walk_at "LN") ?_
 ·walk_at "I2"
  obtain ⟨l, as, gs, rfl, hl, ga, ha, l2, hz, ok, kn, k⟩ := h
  refine ⟨_, (AD (pst 1 BN (pcl T.GP (Lf T) hr AW (AA (pv 0) AC)))
   (AD (pst 2 BN (pxi AS (pxi AS (pv 1) AB) AB))
   (AD (pst 3 BN (pxi AS (pxi AS (pv 1) AB) AB))
   (AD (pst 4 BN (pcl T.Ln (NG T) hr AW (AA (pv 2) (AA (pxi AS (pxi AS (pv 1) AB) AB) (AA (pv 3) (AA (pxi AS (pxi AS (pv 1) AB) AB) AC))))))
   (AD (AY (Cm (Bb (pcl T.K2 (Oe T) hr AW (AA (pv 4) (AA (pv 0) AC))))) (AE (AK Fv))
    AO)
   (AE (AK (AZ (AA (pv 4) (AA (pv 2) (AA (pv 3) AC))))))))))), ?_⟩
  walk_at "RD"
  walk_at "AUTO"
  unfold Fi
  refine ⟨_, as, gs, rfl, hl, ga, ha, l2, hz, ok, fun D H1 ax ay x y s1 pa le fp => ?_⟩
  have eD := pa.eD
  have ex := pa.ex
  have ey := pa.ey
  have lxy := pa.lt
  have ox := ok x pa.hx
  have oy := ok y pa.hy
  obtain ⟨r1, r2, r3, r4, r5⟩ := id ox
  obtain ⟨t1, t2, t3, t4, t5⟩ := id oy
  walk_at "AUTO"
  unfold Jb
  refine ⟨x.p, x.f, y.p, y.h, rfl, by lia, by lia, by lia, by lia, by lia, fun q H2 a b c d s2 e2 L1 L2 => ?_⟩
  have lo := Rc lxy L1 L2
  have ot := Sx (by lia) (by lia) (by lia) (by lia) L1 L2
  walk_at "AUTO"
  unfold JS
  refine ⟨_, _, ⟨a, b, c, d⟩, as, gs, rfl, SqT.of e2, (s1.trans s2).seq hl, ga.same (s1.trans s2), ot, hz, ok, fun H3 s3 => ?_⟩
  by_cases hb : ∀ g ∈ gs, (⟨a, b, c, d⟩ : Thr).pas g
  ·rw [z8 hb]
   have e3 := s3.get e2
   walk_at "AUTO"
   exact k _ _ q ⟨a, b, c, d⟩ x y (s1.trans (s2.trans (s3.trans hs))) ⟨he, hs.get e3, ot, hb, pa.hx, pa.hy, lxy, lo.2.1, lo.2.2⟩ fp
  ·rw [za hb]
   walk_at "AUTO"
   exact kn _ (s1.trans (s2.trans s3)) (Jm ha ok pa.hx pa.hy lxy le fun z => hb fun g hg => (lo.1 g).mpr (z g hg))
theorem Nv : AR ["height"] ["height"] (AG Ev) := by walk_at "SC"
noncomputable def D9 : Sp := fun vs H Q _ => ∃ h : Int, vs = [.int h] ∧ ∀ D H', AI H H' → H' D = some (.tup [.int h, .int 1, .int 0, .int 1]) → Q (.ref D) H'
theorem Rk {h : Int} (b : h.natAbs ≤ 1000) : OkT ⟨h, 1, 0, 1⟩ := ⟨by show h.natAbs ≤ _; lia, by show (1 : Int).natAbs ≤ _; decide, by show (0 : Int).natAbs ≤ _; decide, by show (1 : Int).natAbs ≤ _; decide, by show (0 : Int) < 1; decide, by show (0 : Int) < 1; decide, by show Int.gcd h 1 = 1; simp, by show Int.gcd 0 1 = 1; decide⟩
theorem Th {g : G} (o : OkG g) : (⟨g.f, 1, 0, 1⟩ : Thr).pas g := by
 obtain ⟨_, _, _, h, _⟩ := o
 show Pas g.f 1 0 1 g.p g.f g.h
 unfold Pas
 constructor <;> simp <;> lia
theorem Gz (T : Tx K mg) : Af P w K mg base CX0 1 T.JN T.HM ["height"] D9 := by
 refine T.E3.F.ok Nv (fun _ _ _ _ h => by walk_at "LN") ?_
 ·walk_at "I2"
  obtain ⟨h, rfl, k⟩ := h
  refine ⟨_, (AE (AK (AZ (AA (pv 0) (AA AB (AA AB (AA AB AC))))))), ?_⟩
  walk_at "RD"
  walk_at "AUTO"
  exact k _ _ hs he
theorem Ge : AR ["ordered", "found"] ["ordered"] (AG EG) := by walk_at "SC"
noncomputable def DQ (K : W.Frag) : Sp := fun vs H Q _ => ∃ (l : Addr) (as : List Addr) (gs : List G), vs = [.ref l] ∧ SqL K H l (as.map V.ref) ∧ Ak H as gs ∧ Asc gs ∧ gs.length ≤ 1000 ∧ (∀ g ∈ gs, OkG g) ∧ (∀ H', AI H H' → ¬ Be gs → Q .non H') ∧ ∀ D H' t, AI H H' → H' D = some (.tup t.vs) → OkT t → (∀ g ∈ gs, t.pas g) → Own gs t → Q (.ref D) H'
theorem CI (T : Tx K mg) : Af P w K mg base CX0 7 T.Hn T.GS ["ordered"] (DQ K) := by
 refine T.Bz.F.ok Ge (fun _ _ _ _ h => by walk_at "LN") ?_
 ·walk_at "I2"
  obtain ⟨l, as, gs, rfl, hl, ga, ha, hz, ok, kn, k⟩ := h
  refine ⟨_, (AD (AY (ptc Au (AH AJ (by rfl) T.Am Ac (AA (pv 0) AC)) AB) (AE (AK (pcl T.E3 (Gz T) hr AW (AA AB AC))))
    AO)
   (AD (AY (ptc Au (AH AJ (by rfl) T.Am Ac (AA (pv 0) AC)) AB) (AE (AK (pcl T.E3 (Gz T) hr AW (AA (pxi AS (pxi AM (pv 0) AB) AB) AC))))
    AO)
   (AD (pst 1 Ge (pcl T.B9 (CW T) hr AW (AA (pv 0) AC)))
   (AD (AY (ptc Mh (pv 1) Fv) (AE (AK Fv))
    AO)
   (AE (AK (pxi AS (pv 1) AB))))))), ?_⟩
  have la := ga.len
  walk_at "RD"
  walk_at "AUTO"
  rw [z5, la]
  by_cases c0 : gs.length = 0
  ·have eg := List.eq_nil_of_length_eq_zero c0
   rw [if_pos (z8 (by lia))]
   unfold D9
   refine ⟨0, rfl, fun D H1 s1 e1 => k D H1 ⟨0, 1, 0, 1⟩ s1 e1 (Rk (by decide)) (fun g hg => by rw [eg] at hg; exact absurd hg (by simp)) ⟨fun g z => (by rw [eg] at z; cases z), fun z => by lia⟩⟩
  rw [if_neg (fun z => c0 (by have := z6 z; lia))]
  walk_at "AUTO"
  rw [z5, la]
  by_cases c1 : gs.length = 1
  ·rw [if_pos (z8 (by lia))]
   match gs, ga, c1, ok, k with
   | [g], ga, _, ok, k =>
    obtain ⟨a0, f0, e0⟩ := ga.get (i := 0) (g := g) rfl
    have i0 : atI (as.map V.ref) 0 = some (V.ref a0) := Bx (i := 0) f0
    have og := ok g (by simp)
    obtain ⟨q1, q2, q3, q4, q5⟩ := id og
    walk_at "AUTO"
    unfold D9
    refine ⟨g.f, rfl, fun D H1 s1 e1 => k D H1 ⟨g.f, 1, 0, 1⟩ s1 e1 (Rk (by lia)) (fun g' hg => by rw [zK.mp hg]; exact Th og) ⟨fun g' z => (by cases z; rfl), fun z => absurd z (by simp)⟩⟩
  rw [if_neg (fun z => c1 (by have := z6 z; lia))]
  walk_at "AUTO"
  unfold Bu
  refine ⟨_, as, gs, rfl, hl, ga, ha, by lia, hz, ok, fun H1 s1 nb => ?_, fun D H1 q t x y s1 fa fp => ?_⟩
  ·walk_at "AUTO"
   exact kn _ s1 nb
  ·have eD := fa.eD
   walk_at "AUTO"
   exact k q H1 t s1 fa.eq fa.ok fa.all ⟨fun g z => absurd (congrArg List.length z) c1, fun _ => ⟨fa.ok, fa.all, x, fa.hx, y, fa.hy, fa.lt, fa.tx, fa.ty⟩⟩
theorem Ro : AR ["gates"] ["gates"] (AG Jg) := by walk_at "SC"
noncomputable def Ec (K : W.Frag) : Sp := fun vs H Q _ => ∃ (l : Addr) (as : List Addr) (gs sg : List G), vs = [.ref l] ∧ SqL K H l (as.map V.ref) ∧ Ak H as gs ∧ (gs.map G.p).Nodup ∧ gs.length ≤ 40 ∧ (∀ g ∈ gs, OkG g) ∧ sg.Perm gs ∧ Asc sg ∧ ¬ Be sg ∧ ∀ D H', AI H H' → BarAt H' D gs → Q (.ref D) H'
theorem Hr (T : Tx K mg) : Af P w K mg base CX0 4 T.MX T.Lx ["gates"] (Ec K) := by
 refine T.GE.F.ok Ro (fun _ _ _ _ h => by walk_at "LN") ?_
 ·walk_at "I2"
  obtain ⟨l, as, gs, sg, rfl, hl, ga, nd, h40, ok, hp, ha, nb, k⟩ := h
  refine ⟨_, (AE (AK (AZ (AA AV (AA (pcl T.IW (Mz T) hr AW (AA (pv 0) AC)) AC))))), ?_⟩
  walk_at "RD"
  walk_at "AUTO"
  unfold HR
  refine ⟨_, as, gs, rfl, hl, ga, nd, h40, ok, fun H1 s1 hf => absurd rfl (QV hp ha nb hf), fun D H1 t s1 e1 ne hf => ?_⟩
  walk_at "AUTO"
  exact k _ _ (s1.trans hs) ⟨D, t, he, hs.get e1, ne, hf⟩
theorem E8 : AR ["gates", "throw"] ["gates"] (AG DO) := by walk_at "SC"
noncomputable def LB (K : W.Frag) : Sp := fun vs H Q _ => ∃ (l : Addr) (as : List Addr) (gs : List G), vs = [.ref l] ∧ SqL K H l (as.map V.ref) ∧ Ak H as gs ∧ (gs.map G.p).Nodup ∧ gs.length ≤ 40 ∧ gs ≠ [] ∧ (∀ g ∈ gs, OkG g) ∧ ∀ D H' sg x, AI H H' → sg.Perm gs → Asc sg → Nf sg x → Enc H' x (.ref D) → Q (.ref D) H'
theorem K8 (T : Tx K mg) : Af P w K mg base CX0 8 T.GM T.Fd ["gates"] (LB K) := by
 refine T.GU.F.ok E8 (fun _ _ _ _ h => by walk_at "LN") ?_
 ·walk_at "I2"
  obtain ⟨l, as, gs, rfl, hl, ga, nd, h40, hne, ok, k⟩ := h
  refine ⟨_, (AD (pst 1 E8 (pcl T.Bz (CI T) hr AW (AA (AH Bj (by rfl) T.Bw BW (AA (pv 0) AC)) AC)))
   (AD (AY (ptc Mh (pv 1) Fv) (AE (AK (pcl T.GE (Hr T) hr AW (AA (pv 0) AC))))
    AO)
   (AE (AK (AZ (AA AV (AA (pv 1) AC))))))), ?_⟩
  walk_at "RD"
  walk_at "AUTO"
  intro D1 H1 as1 sg nD s1 e1 ga1 hp ha
  have lg := hp.length_eq
  have ok1 : ∀ g ∈ sg, OkG g := fun g hg => ok g (hp.mem_iff.mp hg)
  unfold DQ
  refine ⟨_, as1, sg, rfl, SqL.of e1, ga1, ha, by lia, ok1, fun H2 s2 nb => ?_, fun q H2 t s2 e2 ot all ow => ?_⟩
  ·walk_at "AUTO"
   unfold Ec
   exact ⟨_, as, gs, sg, rfl, (s1.trans s2).seq hl, ga.same (s1.trans s2), nd, h40, ok, hp, ha, nb, fun D H3 s3 ⟨q', t', f1, f2, ne', hf⟩ => k D H3 sg _ (s1.trans (s2.trans s3)) hp ha (.bar t' ne' (hf.perm hp.symm) rfl) (aI f1 f2)⟩
  ·walk_at "AUTO"
   exact k _ _ sg _ (s1.trans (s2.trans hs)) hp ha (.throw t ot all ow rfl) ⟨_, _, rfl, he, _, _, rfl, rfl, _, _, rfl, U2 (hs.get e2), rfl⟩
theorem Ed : AR ["gates", "found"] ["gates"] (AG Cr) := by walk_at "SC"
noncomputable def J0 (K : W.Frag) : Sp := fun vs H Q _ => ∃ (l : Addr) (as : List Addr) (gs : List G), vs = [.ref l] ∧ SqL K H l (as.map V.ref) ∧ Ak H as gs ∧ (gs.map G.p).Nodup ∧ 2 ≤ gs.length ∧ gs.length ≤ 40 ∧ (∀ g ∈ gs, OkG g) ∧ ∀ D H' sg x, AI H H' → sg.Perm gs → Asc sg → Jc id sg sg x → Enc H' x (.ref D) → Q (.ref D) H'
theorem Jx (T : Tx K mg) : Af P w K mg base CX0 7 T.FF T.EY ["gates"] (J0 K) := by
 refine T.Fe.F.ok Ed (fun _ _ _ _ h => by walk_at "LN") ?_
 ·walk_at "I2"
  obtain ⟨l, as, gs, rfl, hl, ga, nd, l2, h40, ok, k⟩ := h
  refine ⟨_, (AD (pst 1 Ed (pcl T.B9 (CW T) hr AW (AA (AH Bj (by rfl) T.Bw BW (AA (pv 0) AC)) AC)))
   (AD (AY (ptc Mh (pv 1) Fv) (AE (AK (pcl T.GE (Hr T) hr AW (AA (pv 0) AC))))
    AO)
   (AE (AK (AZ (AA AV (AA (pxi AS (pv 1) AB) (AA (pxi AS (pv 1) AB) (AA (pxi AS (pv 1) AB) AC))))))))), ?_⟩
  walk_at "RD"
  walk_at "AUTO"
  intro D1 H1 as1 sg nD s1 e1 ga1 hp ha
  have lg := hp.length_eq
  have ok1 : ∀ g ∈ sg, OkG g := fun g hg => ok g (hp.mem_iff.mp hg)
  unfold Bu
  refine ⟨_, as1, sg, rfl, SqL.of e1, ga1, ha, by lia, by lia, ok1, fun H2 s2 nb => ?_, fun D H2 q t x y s2 fa fp => ?_⟩
  ·walk_at "AUTO"
   unfold Ec
   exact ⟨_, as, gs, sg, rfl, (s1.trans s2).seq hl, ga.same (s1.trans s2), nd, h40, ok, hp, ha, nb, fun D H3 s3 ⟨q', t', f1, f2, ne', hf⟩ => k D H3 sg _ (s1.trans (s2.trans s3)) hp ha (.bar t' ne' (hf.perm hp.symm) rfl) (aI f1 f2)⟩
  ·have eD := fa.eD
   walk_at "AUTO"
   exact k _ _ sg _ (s1.trans (s2.trans hs)) hp ha (.throw t x.p y.p fa.ok fa.all ⟨fa.ok, fa.all, x, fa.hx, y, fa.hy, fa.lt, fa.tx, fa.ty, fp, rfl, rfl⟩ rfl) ⟨_, _, rfl, he, _, _, rfl, rfl, _, _, rfl, U2 (hs.get fa.eq), _, _, rfl, rfl, _, _, rfl, rfl, rfl⟩
theorem NR : AR ["gate"] ["gate"] (AG Eg) := by walk_at "SC"
noncomputable def HL (K : W.Frag) : Sp := fun vs H Q _ => ∃ (a : Addr) (g : G), vs = [.ref a] ∧ SqT K H a (G.vs g) ∧ ∀ D H', AI H H' → H' D = some (.tup (G.vs (CD g))) → Q (.ref D) H'
theorem NZ (T : Tx K mg) : Af P w K mg base CX0 1 T.JG T.HQ ["gate"] (HL K) := by
 refine T.Ix.F.ok NR (fun _ _ _ _ h => by walk_at "LN") ?_
 ·walk_at "I2"
  obtain ⟨a, g, rfl, ha, k⟩ := h
  refine ⟨_, (AE (AK (AZ (AA (pxi AS (pv 0) AB) (AA (Ci Bp (pxi AS (pv 0) AB)) (AA (Ci Bp (pxi AS (pv 0) AB)) AC)))))), ?_⟩
  walk_at "RD"
  walk_at "AUTO"
  exact k _ _ hs he
theorem MT : AR ["throw"] ["throw"] (AG D4) := by walk_at "SC"
noncomputable def Gf (K : W.Frag) : Sp := fun vs H Q _ => ∃ (a : Addr) (t : Thr), vs = [.ref a] ∧ SqT K H a t.vs ∧ ∀ D H', AI H H' → H' D = some (.tup (Mx t).vs) → Q (.ref D) H'
theorem MM (T : Tx K mg) : Af P w K mg base CX0 1 T.G3 T.GW ["throw"] (Gf K) := by
 refine T.HH.F.ok MT (fun _ _ _ _ h => by walk_at "LN") ?_
 ·walk_at "I2"
  obtain ⟨a, t, rfl, ha, k⟩ := h
  refine ⟨_, (AE (AK (AZ (AA (Ci Bp (pxi AS (pv 0) AB)) (AA (pxi AS (pv 0) AB) (AA (Ci Bp (pxi AS (pv 0) AB)) (AA (pxi AS (pv 0) AB) AC))))))), ?_⟩
  walk_at "RD"
  walk_at "AUTO"
  exact k _ _ hs he
theorem ES : AR ["gates", "found"] ["gates"] (AG Cy) := by walk_at "SC"
noncomputable def KR (K : W.Frag) : Sp := fun vs H Q _ => ∃ (l : Addr) (as : List Addr) (gs : List G), vs = [.ref l] ∧ SqL K H l (as.map V.ref) ∧ Ak H as gs ∧ (gs.map G.p).Nodup ∧ 2 ≤ gs.length ∧ gs.length ≤ 40 ∧ (∀ g ∈ gs, OkG g) ∧ ∀ D H' sg x, AI H H' → sg.Perm gs → Asc sg → Jc Mx sg (sg.map CD) x → Enc H' x (.ref D) → Q (.ref D) H'
theorem Kf {H : Hp} : ∀ {ys : List V} {gs : List G}, Paired (fun v g => ∃ p, v = V.ref p ∧ H p = some (.tup (G.vs (CD g)))) ys gs → ∃ as : List Addr, ys = as.map V.ref ∧ Ak H as (gs.map CD)
 | _, _, .nil => ⟨[], rfl, .nil⟩
 | _, _, .cons ⟨p, e1, e2⟩ t => by
  obtain ⟨as, e, ga⟩ := Kf t
  exact ⟨p :: as, by rw [e1, e]; rfl, .cons e2 ga⟩
theorem Ki (T : Tx K mg) : Af P w K mg base CX0 7 T.FX T.EU ["gates"] (KR K) := by
 refine T.FY.F.ok ES (fun _ _ _ _ h => by walk_at "LN") ?_
 ·walk_at "I2"
  obtain ⟨l, as, gs, rfl, hl, ga, nd, l2, h40, ok, k⟩ := h
  refine ⟨_, (AD (pst 1 ES (pcl T.B9 (CW T) hr AW (AA (F6 rfl (⟨rfl, by decide +kernel, by decide +kernel, by decide +kernel, rfl, by decide +kernel, by with_unfolding_all rfl, by rfl, by rfl, by rfl⟩ : BF _ _ "gate" [] []) (B4 (AH Bj (by rfl) T.Bw BW (AA (pv 0) AC))) (fun _ _ _ _  => (pcl T.Ix (NZ T) hr AW (AA (pv 0) AC))) (fun _ _ _ _ => Fj)) AC)))
   (AD (AY (ptc Mh (pv 1) Fv) (AE (AK (pcl T.GE (Hr T) hr AW (AA (pv 0) AC))))
    AO)
   (AE (AK (AZ (AA AV (AA (pcl T.HH (MM T) hr AW (AA (pxi AS (pv 1) AB) AC)) (AA (pxi AS (pv 1) AB) (AA (pxi AS (pv 1) AB) AC))))))))), ?_⟩
  delta KJ
  walk_at "AUTO"
  intro D1 H1 as1 sg nD s1 e1 ga1 hp ha
  have lg := hp.length_eq
  have ok1 : ∀ g ∈ sg, OkG g := fun g hg => ok g (hp.mem_iff.mp hg)
  refine ⟨⟨_, SqL.of e1⟩, fun C nC => ?_⟩
  refine PM (F := fun H v g => ∃ p, v = V.ref p ∧ H p = some (.tup (G.vs (CD g)))) (fun _ _ _ _ s ⟨p, e1, e2⟩ => ⟨p, e1, s.get e2⟩) (fun H v g xs ys hD ⟨p, e1, e2⟩ => ⟨p, e1, by rw [AL (BQ e2 hD (by intro z; cases z))]; exact e2⟩) (SqL.of e1) ga1 nC (by lia) ?_ ?_
  ·intro v g H2 R hg s2 ev hR
   delta qA
   walk_at "AUTO"
   unfold HL
   exact ⟨_, g, rfl, SqT.of ev, fun D H3 s3 e3 => hR _ _ s3 ⟨D, rfl, e3⟩⟩
  intro H2 ys s2 e2 pr
  obtain ⟨as2, rfl, ga2⟩ := Kf pr
  unfold Bu
  refine ⟨_, as2, sg.map CD, rfl, SqL.of e2, ga2, Ud ha, by rw [z5]; lia, by rw [z5]; lia, fun g hg => ?_, fun H3 s3 nb => ?_, fun D H3 q t x y s3 fa fp => ?_⟩
  ·obtain ⟨g', hg', rfl⟩ := zf.mp hg
   exact Wu (ok1 g' hg')
  ·walk_at "AUTO"
   unfold Ec
   have s13 := s1.trans (s2.trans s3)
   exact ⟨_, as, gs, sg, rfl, s13.seq hl, ga.same s13, nd, h40, ok, hp, ha, fun z => nb (Sg z), fun D H4 s4 ⟨q', t', f1, f2, ne', hf⟩ => k D H4 sg _ (s13.trans s4) hp ha (.bar t' ne' (hf.perm hp.symm) rfl) (aI f1 f2)⟩
  ·have eD := fa.eD
   walk_at "AUTO"
   unfold Gf
   refine ⟨_, t, rfl, SqT.of fa.eq, fun D2 H4 s4 e4 => ?_⟩
   have eD4 := s4.get eD
   walk_at "AUTO"
   exact k _ _ sg _ (s1.trans (s2.trans (s3.trans (s4.trans hs)))) hp ha (.throw t x.p y.p (Vz fa.ok) (fun g hg => VW.mpr (fa.all _ (zf.mpr ⟨g, hg, rfl⟩))) ⟨fa.ok, fa.all, x, fa.hx, y, fa.hy, fa.lt, fa.tx, fa.ty, fp, rfl, rfl⟩ rfl) ⟨_, _, rfl, he, _, _, rfl, rfl, _, _, rfl, U2 (hs.get e4), _, _, rfl, rfl, _, _, rfl, rfl, rfl⟩
theorem Q1 : AR ["run", "throw"] ["run", "throw"] (AG Ja) := by walk_at "SC"
noncomputable def Gu (K : W.Frag) : Sp := fun vs H Q _ => ∃ (l q : Addr) (bs : List Addr) (g : G) (rest : List G) (t : Thr), vs = [.ref l, .ref q] ∧ SqL K H l (bs.map V.ref) ∧ Ak H bs (g :: rest) ∧ H q = some (.tup t.vs) ∧ OkT t ∧ (∀ x ∈ g :: rest, t.pas x) ∧ ∀ D H', AI H H' → Gs H' D ⟨g, rest, t⟩ → Q (.ref D) H'
theorem MB (T : Tx K mg) : Af P w K mg base CX0 1 T.Nx T.Ls ["run", "throw"] (Gu K) := by
 refine T.Jn.F.ok Q1 (fun _ _ _ _ h => by walk_at "LN") ?_
 ·walk_at "I2"
  obtain ⟨l, q, bs, g, rest, t, rfl, hl, gb, eq, ot, all, k⟩ := h
  refine ⟨_, (AE (AK (AZ (AA (pxi AS (pxi AM (pv 0) AB) AB) (AA (pxi AS (pxi AM (pv 0) (Ci Bp AB)) AB) (AA (pv 1) AC)))))), ?_⟩
  obtain ⟨a0, f0, e0⟩ := gb.get (i := 0) (g := g) rfl
  have i0 : atI (bs.map V.ref) 0 = some (V.ref a0) := Bx (i := 0) f0
  obtain ⟨pre, ep⟩ := N5 g rest t
  have gb2 := gb
  rw [ep] at gb2
  obtain ⟨cs, az, ec, ez⟩ := UV gb2
  have iz : atI (bs.map V.ref) (-1) = some (V.ref az) := by rw [ec, zW]; exact Va _ _
  walk_at "RD"
  walk_at "AUTO"
  exact k _ _ hs ⟨q, he, hs.get eq, ot, all⟩
theorem Aq : AR ["gates", "runs", "run", "throw", "gate", "longer", "longer_throw"] ["gates"] (AG Ez) := by walk_at "SC"
noncomputable def Nq (K : W.Frag) : Sp := fun vs H Q _ => ∃ (l : Addr) (as : List Addr) (gs : List G), vs = [.ref l] ∧ SqL K H l (as.map V.ref) ∧ Ak H as gs ∧ (gs.map G.p).Nodup ∧ gs.length ≤ 40 ∧ (∀ g ∈ gs, OkG g) ∧ ∀ D H' as' rs, H D = none → AI H H' → QL H' D as' rs gs → Q8 rs → Q (.ref D) H'
noncomputable def Wsh (l R S : Addr) (as1 : List Addr) (sg : List G) (H : Hp) : Nat → St → Hp → Prop := fun i σ H' => ∃ (L : Addr) (tv : V) (ra : List Addr) (rs : List Run) (bs : List Addr) (cur : List G) (o1 o2 o3 : Option V), σ = [some (.ref l), some (.ref R), some (.ref L), some tv, o1, o2, o3] ∧ AI H H' ∧ U9 H' R S L as1 sg ra rs bs cur tv i
noncomputable def Csh (l R S : Addr) (as1 : List Addr) (sg : List G) (i : Nat) (H : Hp) : St → Hp → Prop := fun σ H' => ∃ (L P : Addr) (tv pv : V) (ra : List Addr) (rs : List Run) (bs : List Addr) (cur : List G) (o1 : Option V), σ = [some (.ref l), some (.ref R), some (.ref L), some tv, o1, some (.ref P), some pv] ∧ AI H H' ∧ U9 H' R S P as1 sg ra rs bs cur pv (i + 1)
noncomputable def Csh2 (R : Addr) (gs : List G) (H : Hp) : St → Hp → Prop := fun σ H' => ∃ (o0 o2 o3 o4 o5 o6 : Option V) (ra : List Addr) (rs : List Run), σ = [o0, some (.ref R), o2, o3, o4, o5, o6] ∧ AI H H' ∧ QL H' R ra rs gs ∧ Q8 rs
theorem NY (T : Tx K mg) : Af P w K mg base CX0 8 T.JW T.Ha ["gates"] (Nq K) := by
 refine T.Iy.F.ok Aq (fun _ _ _ _ h => by walk_at "LN") ?_
 ·walk_at "I2"
  obtain ⟨l, as, gs, rfl, hl, ga, nd, h40, ok, k⟩ := h
  refine ⟨_, (AD (pst 1 Aq (Ae AC))
   (AD (pst 2 Aq (Ae AC))
   (AD (pst 3 Aq Fv)
   (AD (BO PassesOwn.never rfl (B4 (AH Bj (by rfl) T.Bw BW (AA (pv 0) AC))) (pgn 4 Aq)
    (AD (pst 5 Aq (AF QI (pv 2) (Ae (AA (pv 4) AC))))
     (AD (pst 6 Aq (pcl T.Bz (CI T) hr AW (AA (pv 5) AC)))
     (BB (AY (ptc Mh (pv 6) Fv) (AD (Av (BJ (pv 1) (pcl T.Jn (MB T) hr AW (AA (pv 2) (AA (pv 3) AC)))))
       (AD (pst 5 Aq (Ae (AA (pv 4) AC)))
       (AE (pst 6 Aq (pcl T.Bz (CI T) hr AW (AA (pv 5) AC))))))
      AO)
     (AD (pst 2 Aq (pv 5))
     (AE (pst 3 Aq (pv 6))))))))
   (BB (AY (ptc DI (AH AJ (by rfl) T.Am Ac (AA (pv 2) AC)) AB) (AE (Av (BJ (pv 1) (pcl T.Jn (MB T) hr AW (AA (pv 2) (AA (pv 3) AC))))))
    AO)
   (AE (AK (pv 1)))))))), ?_⟩
  walk_at "RD"
  refine ⟨by decide, fun R H1 nR s1 eR => ?_⟩
  refine ⟨by decide, fun L H2 nL s2 eL => ?_⟩
  have s12 := s1.trans s2
  have hne : L ≠ R := fun z => by rw [z, eR] at nL; cases nL
  refine ⟨_, rfl, l, rfl, as, gs, s12.seq hl, ga.same s12, nd, by lia, fun S H3 as1 sg nS s3 e3 ga1 hp ha => ?_⟩
  have lg := hp.length_eq
  have ok1 : ∀ g ∈ sg, OkG g := fun g hg => ok g (hp.mem_iff.mp hg)
  have la1 := ga1.len
  have hneS : S ≠ R := fun z => by
   have := s2.get eR
   rw [z, this] at nS; cases nS
  refine ⟨S, rfl, ⟨_, SqL.of e3⟩, HF (xs := as1.map V.ref) (Wsh l R S as1 sg H) ⟨L, .non, [], [], [], [], none, none, none, rfl, s12.trans s3, ⟨s3.get (s2.get eR), .nil, s3.get eL, .nil, hne, e3, ga1, hneS, rfl, .inl ⟨rfl, rfl, rfl⟩⟩⟩ (fun i σ H4 _ zq => by obtain ⟨_, _, _, _, _, _, _, _, _, _, _, sh⟩ := zq; exact SqL.of sh.eS) ?_ ?_⟩
  ·clear hneS e3 ga1 nS eL nL hne s12 s2 s3 eR
   rintro i vv σ H4 hx ⟨L, tv, ra, rs, bs, cur, o1, o2, o3, rfl, s4, sh⟩
   have hi : i < sg.length := by
    have := (zA.mp hx).1
    rw [z5] at this
    lia
   obtain ⟨ea, fe, ee⟩ := sh.gS.get (z4 hi)
   have ex : vv = V.ref ea := by
    rw [zJ, fe] at hx
    exact (zN hx).symm
   subst ex
   have gu := z4 hi
   have et : sg.take (i + 1) = sg.take i ++ [sg[i]] := zM hi
   have ou := ok1 _ (zV hi)
   generalize sg[i] = u at ee gu et ou
   have eL := sh.eL
   have spl : (rs.flatMap Run.all ++ cur).length = i := by
    rw [sh.sp, zh]; lia
   rw [zC] at spl
   have hcl : cur.length ≤ i := by lia
   have lbs := sh.gb.len
   have okc : ∀ g ∈ cur, OkG g := fun g hg => ok1 g (zm (i := i) (by rw [← sh.sp]; exact zc _ hg))
   have ascc : Asc (rs.flatMap Run.all ++ cur ++ [u]) := by rw [sh.sp, ← et]; exact ha.take' _
   have ascu : Asc (cur ++ [u]) := by rw [qI] at ascc; exact ascc.right
   walk_at "RD"
   refine ⟨by decide, fun B H5 nB s5 eB => ⟨_, s5.get eL, _, eB, by rw [z5, PySem.sizeLine_eq]; simp; lia, fun P H6 nP s6 eP => ?_⟩⟩
   have s46 := s5.trans s6
   have sh6 := sh.same s46
   have nPR : P ≠ R := fun z => by
    have := s5.get sh.eR
    rw [z, this] at nP; cases nP
   have eP' : H6 P = some (.lst ((bs ++ [ea]).map V.ref)) := by rw [eP, zW]; rfl
   have gP : Ak H6 (bs ++ [ea]) (cur ++ [u]) := (sh.gb.same s46).snoc (s46.get ee)
   unfold DQ
   refine ⟨_, bs ++ [ea], cur ++ [u], rfl, SqL.of eP', gP, ascu, by rw [zC]; simp; lia, fun g hg => ?_, fun H7 s7 nb => ?_, fun q H7 t s7 e7 ot all ow => ?_⟩
   ·rcases zb.mp hg with z | z
    ·exact okc g z
    ·rw [zK.mp z]; exact ou
   ·refine ⟨Csh l R S as1 sg i H, ?_, ?_⟩
    ·have s47 := s46.trans s7
     have sh7 := sh.same s47
     rcases sh7.th with ⟨z, _, _⟩ | ⟨q, t, g, rest, e1, e2, ot, all, ec, far⟩
     ·subst z
      exact absurd (LN (by simp)) nb
     subst e1
     subst ec
     have eR7 := sh7.eR
     have eL7 := sh7.eL
     walk_at "RD"
     walk_at "AUTO"
     unfold Gu
     refine ⟨_, _, bs, g, rest, t, rfl, SqL.of eL7, sh7.gb, e2, ot, all, fun D H8 s8 rn => ?_⟩
     have sh8 := sh7.same s8
     have lra := Paired.length sh8.at_
     have lrs := QJ rs
     refine ⟨_, sh8.eR, by rw [z5, PySem.sizeLine_eq]; lia, ?_⟩
     have hR8 := sh8.eR
     have sHU : AI H (L2.upd H8 R (.lst (ra.map V.ref ++ [.ref D]))) := (s4.trans (s47.trans s8)).updFresh nR
     have eRU : L2.upd H8 R (.lst (ra.map V.ref ++ [.ref D])) R = some (.lst ((ra ++ [D]).map V.ref)) := by rw [AN, zW]; rfl
     have eSU : L2.upd H8 R (.lst (ra.map V.ref ++ [.ref D])) S = some (.lst (as1.map V.ref)) := by rw [AL sh8.neS]; exact sh8.eS
     have gSU := sh8.gS.upd (u := .lst (ra.map V.ref ++ [.ref D])) hR8 (by intro ys z; cases z)
     have eaU : L2.upd H8 R (.lst (ra.map V.ref ++ [.ref D])) ea = some (.tup (G.vs u)) := by
      have e8 := s8.get (s47.get ee)
      rw [AL (BQ e8 hR8 (by intro z; cases z))]
      exact e8
     have atU : Paired (Gs (L2.upd H8 R (.lst (ra.map V.ref ++ [.ref D])))) (ra ++ [D]) (rs ++ [⟨g, rest, t⟩]) := Paired.snoc (Paired.mapP sh8.at_ fun _ _ e => e.updL hR8) (rn.updL hR8)
     generalize L2.upd H8 R (.lst (ra.map V.ref ++ [.ref D])) = HU at sHU eRU eSU gSU eaU atU
     refine ⟨by decide, fun B2 H9 nB2 s9 eB2 => ?_⟩
     have nB2R : B2 ≠ R := fun z => by rw [z, eRU] at nB2; cases nB2
     refine ⟨[ea], SqL.of eB2, [u], .cons (s9.get eaU) .nil, List.pairwise_singleton _ _, by simp, fun g hg => by rw [zK.mp hg]; exact ou, fun _ _ z => absurd (LN (by simp)) z, fun q2 HA t2 sA eA ot2 all2 ow2 => ?_⟩
     have sUA := s9.trans sA
     refine ⟨L, B2, _, .ref q2, ra ++ [D], rs ++ [⟨g, rest, t⟩], [ea], [u], _, rfl, sHU.trans sUA, ⟨sUA.get eRU, Paired.mapP atU fun _ _ e => e.same sUA, sA.get eB2, .cons (sUA.get eaU) .nil, nB2R, sUA.get eSU, gSU.same sUA, sh8.neS, ?_, .inr ⟨q2, t2, u, [], rfl, eA, ot2, all2, rfl, To far nb ow2⟩⟩⟩
     rw [List.flatMap_append, Qt, et, ← sh8.sp]
    ·rintro σ H8 ⟨L, P, tv, pv, ra, rs, bs, cur, o1, rfl, s8, sh⟩
     walk_at "RD"
     exact ⟨P, pv, ra, rs, bs, cur, _, _, _, rfl, s8, sh⟩
   ·refine ⟨Csh l R S as1 sg i H, ?_, ?_⟩
    ·walk_at "RD"
     walk_at "AUTO"
     have sh7 := sh6.same s7
     have far' : ∃ g rest, cur ++ [u] = g :: rest ∧ R0 (rs ++ [⟨g, rest, t⟩]) := by
      rcases sh7.th with ⟨z, z2, _⟩ | ⟨q, t', g, rest, e1, e2, ot', all', ec, far⟩
      ·subst z
       subst z2
       exact ⟨u, [], rfl, Up ow⟩
      ·subst ec
       exact ⟨g, rest ++ [u], rfl, UO far rfl ow⟩
     obtain ⟨g, rest, ec, far⟩ := far'
     refine ⟨L, P, _, .ref q, ra, rs, bs ++ [ea], cur ++ [u], _, rfl, s4.trans (s46.trans s7), ⟨sh7.eR, sh7.at_, s7.get eP', gP.same s7, nPR, sh7.eS, sh7.gS, sh7.neS, ?_, .inr ⟨q, t, g, rest, rfl, e7, ot, all, ec, far⟩⟩⟩
     rw [et, ← sh.sp, qI]
    ·rintro σ H8 ⟨L, P, tv, pv, ra, rs, bs, cur, o1, rfl, s8, sh⟩
     walk_at "RD"
     exact ⟨P, pv, ra, rs, bs, cur, _, _, _, rfl, s8, sh⟩
  ·rintro σ H4 ⟨L, tv, ra, rs, bs, cur, o1, o2, o3, rfl, s4, sh⟩
   rw [z5, la1] at sh
   have eL := sh.eL
   have lbs := sh.gb.len
   have spt := sh.sp
   rw [zl] at spt
   refine ⟨Csh2 R gs H, ?_, ?_⟩
   ·walk_at "RD"
    walk_at "AUTO"
    rw [z5, lbs]
    rcases sh.th with ⟨z, z2, z3⟩ | ⟨q, t, g, rest, e1, e2, ot, all, ec, far⟩
    ·subst z
     subst z2
     rw [if_neg (by simp)]
     have e0 : sg = [] := by simpa using spt.symm
     exact ⟨_, _, _, _, _, _, ra, [], rfl, s4, ⟨sh.eR, sh.at_, by rw [e0] at hp; exact hp, by simp [Asc], trivial⟩, fun r hr => absurd hr (by simp)⟩
    ·subst e1
     subst ec
     have eR := sh.eR
     rw [if_pos (by simp)]
     walk_at "AUTO"
     unfold Gu
     refine ⟨_, _, bs, g, rest, t, rfl, SqL.of eL, sh.gb, e2, ot, all, fun D H8 s8 rn => ?_⟩
     have sh8 := sh.same s8
     have lra := Paired.length sh8.at_
     have lrs := QJ rs
     have spl := congrArg List.length spt
     rw [zC] at spl
     have hR8 := sh8.eR
     refine ⟨_, sh8.eR, by rw [z5, PySem.sizeLine_eq]; lia, ?_⟩
     have spl2 : (rs ++ [(⟨g, rest, t⟩ : Run)]).flatMap Run.all = sg := by rw [List.flatMap_append, Qt]; exact spt
     refine ⟨_, _, _, _, _, _, ra ++ [D], rs ++ [⟨g, rest, t⟩], rfl, (s4.trans s8).updFresh nR, ⟨by rw [AN, zW]; rfl, Paired.snoc (Paired.mapP sh8.at_ fun _ _ e => e.updL hR8) (rn.updL hR8), by rw [spl2]; exact hp, by rw [spl2]; exact ha, far.1⟩, far.2⟩
   ·rintro σ H5 ⟨o0, o2, o3, o4, o5, o6, ra, rs, rfl, s5, rr, ow⟩
    walk_at "RD"
    exact k R H5 ra rs nR s5 rr ow
theorem Bk : AR ["ordered", "throws", "index", "earlier", "later"] ["ordered"] (AG EC) := by walk_at "SC"
structure TrA (H : Hp) (TL : Addr) (gs : List G) (n : Nat) (don : Nat → Nat → Prop) (qs : List Addr) (ts : List Thr) : Prop where
 eT : H TL = some (.lst (qs.map V.ref))
 pr : Paired (fun q (t : Thr) => H q = some (.tup t.vs)) qs ts
 ok : ∀ t ∈ ts, OkT t
 one : ∃ t ∈ ts, ∃ g ∈ gs, t.pas g
 len : qs.length ≤ n
 two : ∀ (i j : Nat) (x y : G), gs[i]? = some x → gs[j]? = some y → i < j → don i j → ∃ t ∈ ts, ∀ g : G, t.pas g ↔ F9 (x.f * y.p - y.h * x.p) (y.h - x.f) (y.p - x.p) g
theorem TrA.same {H H' : Hp} {TL : Addr} {gs : List G} {n : Nat} {don : Nat → Nat → Prop} {qs : List Addr} {ts : List Thr} (h : TrA H TL gs n don qs ts) (s : AI H H') : TrA H' TL gs n don qs ts := ⟨s.get h.eT, Paired.mapP h.pr fun _ _ e => s.get e, h.ok, h.one, h.len, h.two⟩
noncomputable def MQ (K : W.Frag) : Sp := fun vs H Q _ => ∃ (l : Addr) (as : List Addr) (gs : List G), vs = [.ref l] ∧ SqL K H l (as.map V.ref) ∧ Ak H as gs ∧ Asc gs ∧ 1 ≤ gs.length ∧ gs.length ≤ 12 ∧ (∀ g ∈ gs, OkG g) ∧ ∀ (D : Addr) (H' : Hp) (qs : List Addr) (ts : List Thr), H D = none → AI H H' → H' D = some (.lst (qs.map V.ref)) → Paired (fun q (t : Thr) => H' q = some (.tup t.vs)) qs ts → qs.length ≤ 200 → XE gs ts → ts = LY gs → Q (.ref D) H'
noncomputable def Wm1 (l TL : Addr) (gs : List G) (H : Hp) : Nat → St → Hp → Prop := fun i σ H' => ∃ (o2 o3 o4 : Option V) (qs : List Addr) (ts : List Thr), σ = [some (.ref l), some (.ref TL), o2, o3, o4] ∧ AI H H' ∧ TrA H' TL gs (1 + 12 * i) (fun a _ => a < i) qs ts ∧ ts = tri gs i 0
noncomputable def Wm2 (l TL ea : Addr) (gs : List G) (H : Hp) (i : Nat) : Nat → St → Hp → Prop := fun j σ H' => ∃ (o4 : Option V) (qs : List Addr) (ts : List Thr), σ = [some (.ref l), some (.ref TL), some (.int (i : Int)), some (.ref ea), o4] ∧ AI H H' ∧ TrA H' TL gs (1 + 12 * i + j) (fun a c => a < i ∨ a = i ∧ c < i + 1 + j) qs ts ∧ ts = tri gs i j
theorem MG (T : Tx K mg) : Af P w K mg base CX0 8 T.Gx T.Gj ["ordered"] (MQ K) := by
 refine T.Hq.F.ok Bk (fun _ _ _ _ h => by walk_at "LN") ?_
 ·walk_at "I2"
  obtain ⟨l, as, gs, rfl, hl, ga, ha, l1, l12, ok, k⟩ := h
  refine ⟨_, (AD (pst 1 Bk (Ae (AA (pcl T.Bz (CI T) hr AW (AA (FC FL (pv 0) Hy (IB AB)) AC)) AC)))
   (AD (BO PassesOwn.never rfl (TH (by rfl) T.L4 (AA (pv 0) AC)) (Fx (n := 2) rfl (Ai (pgn 2 Bk) (Ai (pgn 3 Bk) C4)))
    (AE (BO PassesOwn.never rfl (B4 (FC FL (pv 0) (IB (AF Ag (pv 2) AB)) Hy)) (pgn 4 Bk)
      (AE (Av (BJ (pv 1) (pcl T.Ln (NG T) hr AW (AA (pxi AS (pv 3) AB) (AA (pxi AS (pv 3) AB) (AA (pxi AS (pv 4) AB) (AA (pxi AS (pv 4) AB) AC)))))))))))
   (AE (AK (pv 1))))), ?_⟩
  have la := ga.len
  have h0 : 0 < gs.length := by lia
  walk_at "Q"
  walk_at "RD"
  walk_at "AUTO"
  have he' : H' p = some (.lst ((as.take 1).map V.ref)) := by rw [he, show (1 : Int) = ((1 : Nat) : Int) from rfl, F5, List.map_take]
  have gaT := (ga.same hs).takeG 1
  have lT : (gs.take 1).length ≤ 1 := by rw [zh]; lia
  refine ⟨p, as.take 1, gs.take 1, rfl, SqL.of he', gaT, List.Pairwise.sublist (List.take_sublist _ _) ha, by lia, fun g hg => ok g (zm hg), fun H1 s1 z => absurd (LN (by lia)) z, fun q0 H1 t0 s1 e1 ot0 al0 ow0 => ⟨by decide, fun TL H2 nT s2 eT => ?_⟩⟩
  walk_at "NX"
  have s02 := hs.trans (s1.trans s2)
  have nT0 : H TL = none := (hs.trans s1).free nT
  have one0 : ∃ t ∈ [t0], ∃ g ∈ gs, t.pas g := ⟨t0, by simp, gs[0], zV h0, al0 _ (by
   have := zM (l := gs) (i := 0) h0
   rw [this]; simp)⟩
  clear he' gaT lT al0 nT he hn
  walk_at "Q"
  refine ⟨_, rfl, l, rfl, ⟨_, s02.seq hl⟩, RS (xs := as.map V.ref) (Wm1 l TL gs H) ⟨none, none, none, [q0], [t0], rfl, s02, ⟨eT, .cons (s2.get e1) .nil, fun t ht => by rw [zK.mp ht]; exact ot0, one0, by simp, fun _ _ _ _ _ _ _ z => absurd z (by lia)⟩, Tz h0 ow0⟩ (fun i σ H3 _ zq => by obtain ⟨_, _, _, _, _, _, s3, _⟩ := zq; exact s3.seq hl) ?_ ?_⟩
  ·rintro i vv σ H3 pp H4 hx ⟨o2, o3, o4, qs, ts, rfl, s3, tr, ts0⟩ hn s4 e4
   have hi : i < gs.length := by
    have := (zA.mp hx).1
    rw [z5] at this
    lia
   obtain ⟨ea, fe, ee⟩ := ga.get (z4 hi)
   have ex : vv = V.ref ea := by
    rw [zJ, fe] at hx
    exact (zN hx).symm
   subst ex
   have s04 := s3.trans s4
   have gu := z4 hi
   generalize hu0 : gs[i] = u at ee gu
   have ou := ok u (zU gu)
   delta K7 FW LV
   refine ⟨_, SqT.of e4, rfl, _, _, rfl, _, _, rfl, rfl, ?_⟩
   refine ⟨_, rfl, _, rfl, _, _, rfl, rfl, _, rfl, l, rfl, _, s04.seq hl, fun S H5 nS s5 eS => ?_⟩
   rw [show (i : Int) + 1 = ((i + 1 : Nat) : Int) by lia, PP, ← List.map_drop] at eS
   have s05 := s04.trans s5
   have trS := (tr.same s4).same s5
   have neS : S ≠ TL := fun z => by
    have := (tr.same s4).eT
    rw [z, this] at nS
    cases nS
   refine ⟨S, rfl, ⟨_, SqL.of eS⟩, HF (xs := (as.drop (i + 1)).map V.ref) (fun j σ H' => Wm2 l TL ea gs H i j σ H' ∧ H' S = some (.lst ((as.drop (i + 1)).map V.ref))) ⟨⟨o4, qs, ts, rfl, s05, ⟨trS.eT, trS.pr, trS.ok, trS.one, by have := trS.len; lia, fun a c x y h1 h2 h3 h4 => trS.two a c x y h1 h2 h3 (by lia)⟩, ts0⟩, eS⟩ (fun j σ H6 _ ⟨_, z⟩ => SqL.of z) ?_ ?_⟩
   ·rintro j vv σ H6 hx ⟨⟨o4, qs, ts, rfl, s6, tr, tsj⟩, eS6⟩
    have hj : i + 1 + j < gs.length := by
     have := (zA.mp hx).1
     rw [z5, zu] at this
     lia
    obtain ⟨la', fl, el⟩ := ga.get (z4 hj)
    have ex : vv = V.ref la' := by
     rw [zJ, List.getElem?_drop, fl] at hx
     exact (zN hx).symm
    subst ex
    have gv := z4 hj
    generalize hv0 : gs[i + 1 + j] = v at el gv
    have ov := ok v (zU gv)
    have eu6 := s6.get ee
    have ev6 := s6.get el
    have luv := Bi ha gu gv (by lia)
    obtain ⟨p1, p2, p3, p4, p5⟩ := id ou
    obtain ⟨q1, q2, q3, q4, q5⟩ := id ov
    delta Jb
    refine ⟨⟨_, tr.eT⟩, _, SqT.of eu6, _, rfl, _, SqT.of eu6, _, rfl, _, SqT.of ev6, _, rfl, _, SqT.of ev6, _, rfl, _, rfl, _, rfl, _, rfl, _, rfl, by lia, by lia, by lia, by lia, by lia, fun q H7 x1 y1 z1 v1 s7 e7 Lw1 Lw2 => ?_⟩
    have lo := Rc luv Lw1 Lw2
    have ot := Sx (by lia) (by lia) (by lia) (by lia) Lw1 Lw2
    have tr7 := tr.same s7
    have ll := tr.len
    have nq : ∀ b xs, H7 b = some (.tup xs) → b ≠ TL := fun b xs e z => by rw [z, tr7.eT] at e; cases e
    refine ⟨_, tr7.eT, by rw [z5, PySem.sizeLine_eq]; lia, ⟨_, qs ++ [q], ts ++ [⟨x1, y1, z1, v1⟩], rfl, (s6.trans s7).updFresh nT0, ⟨by rw [AN, zW]; rfl, ?_, ?_, ?_, ?_, ?_⟩, VR tsj gu gv luv ⟨Lw1, Lw2⟩⟩, ?_⟩
    ·exact Paired.snoc (Paired.mapP tr7.pr fun b t e => (AL (nq b _ e)).trans e) ((AL (nq q _ e7)).trans e7)
    ·intro t ht
     rcases zb.mp ht with z | z
     ·exact tr7.ok t z
     ·rw [zK.mp z]; exact ot
    ·obtain ⟨t, ht, g', hg', pg'⟩ := tr7.one
     exact ⟨t, zz _ ht, g', hg', pg'⟩
    ·rw [zC]
     simp only [zE, zP]
     lia
    ·intro a c x y h1 h2 h3 h4
     by_cases hc : a < i ∨ a = i ∧ c < i + 1 + j
     ·obtain ⟨t, ht, ht2⟩ := tr7.two a c x y h1 h2 h3 hc
      exact ⟨t, zz _ ht, ht2⟩
     ·have ea' : a = i := by lia
      have ec' : c = i + 1 + j := by lia
      subst ea' ec'
      rw [gu] at h1
      rw [gv] at h2
      cases h1
      cases h2
      exact ⟨_, zc _ (zK.mpr rfl), lo.1⟩
    ·exact (AL neS).trans (s7.get eS6)
   ·rintro σ H6 ⟨⟨o4, qs, ts, rfl, s6, tr, tsj⟩, eS6⟩
    refine ⟨_, _, _, qs, ts, rfl, s6, ⟨tr.eT, tr.pr, tr.ok, tr.one, ?_, fun a c x y h1 h2 h3 h4 => tr.two a c x y h1 h2 h3 ?_⟩, by rw [tsj, z5, zu, la, ← zu]; exact WU gs i⟩
    ·have := tr.len
     rw [z5, zu] at this
     lia
    ·have : c < gs.length := (zA.mp h2).1
     rw [z5, zu, la]
     lia
  rintro σ H3 ⟨o2, o3, o4, qs, ts, rfl, s3, tr, tse⟩
  refine hM _ _ ?_
  clear hM M
  walk_at "RD"
  refine k TL H3 qs ts nT0 s3 tr.eT tr.pr ?_ ⟨fun z => ?_, tr.ok, tr.one, fun x hx y hy lt => ?_⟩ (by rw [tse, z5, la]; exact WD gs)
  ·have := tr.len
   rw [z5] at this
   lia
  ·obtain ⟨t, ht, _⟩ := tr.one
   rw [z] at ht
   exact absurd ht (by simp)
  ·obtain ⟨a, ea⟩ := zp.mp hx
   obtain ⟨c, ec⟩ := zp.mp hy
   have hac := E9 ha ea ec lt
   exact tr.two a c x y ea ec hac (by rw [z5, la]; exact (zA.mp ea).1)
theorem Eu : AR ["gates", "ordered", "tried"] ["gates"] (AG F3) := by walk_at "SC"
noncomputable def OQ (K : W.Frag) : Sp := fun vs H Q _ => ∃ (l : Addr) (as : List Addr) (gs : List G), vs = [.ref l] ∧ SqL K H l (as.map V.ref) ∧ Ak H as gs ∧ (gs.map G.p).Nodup ∧ 1 ≤ gs.length ∧ gs.length ≤ 12 ∧ (∀ g ∈ gs, OkG g) ∧ LM.Tbl H CG CZ Kx ∧ ∀ D H' L q t sg, H L = none → A1 CG H H' → LM.Tbl H' CG CZ Kx → LJ H' D gs L q t sg → Uj sg t → Q (.ref D) H'
theorem OF (T : Tx K mg) : Af P w K mg base CX0 9 T.KI T.Eh ["gates"] (OQ K) := by
 refine LM.Fun.okL T.K0.F T.N9 Eu (fun vs H Q E h => ?_) (fun cdv A outer s H vs Q E la hr h => ?_)
 ·obtain ⟨l, as, gs, rfl, hl, ga, nd, l1, l12, ok, tb, k⟩ := h
  rfl
 ·obtain ⟨l, as, gs, rfl, hl, ga, nd, l1, l12, ok, tb, k⟩ := h
  have hu := Vi hr
  refine ⟨_, (AD (pst 1 Eu (AH Bj (by rfl) T.Bw BW (AA (pv 0) AC)))
   (AD (NF (i := 2) rfl Eu.nd rfl (Or.inl rfl) (⟨rfl, by decide +kernel, by decide +kernel, by decide +kernel, rfl, by decide +kernel, by with_unfolding_all rfl, by rfl, by rfl, by rfl⟩ : BF _ _ "throw" ["ordered"] [1]) (B4 (pcl T.Hq (MG T) hr AW (AA (pv 1) AC))) (fun _ _ _ _  => (AZ (AA (pcl T.DK (FI T) hr AW (AA (pv 0) (AA (pv 1) AC))) (AA (pv 0) AC)))) (fun _ _ _ _ => Fj))
   (AE (AK (LM.WG (x := "told") (by rfl) T.QZ T.Am (hr.mono (by decide)) la (by exact ⟨rfl, rfl, fun _ _ _ _ _ _ _ _ => rfl, rfl, rfl, by decide, rfl, rfl, rfl, by decide, fun _ => rfl⟩) (pv 2)))))), ?_⟩
  have la := ga.len
  walk_at "Q"
  walk_at "RD"
  walk_at "AUTO"
  intro S H1 as1 sg nS s1 eS ga1 hp ha
  walk_at "NX"
  have lsg : sg.length = gs.length := hp.length_eq
  have oks : ∀ g ∈ sg, OkG g := fun g hg => ok g (hp.mem_iff.mp hg)
  walk_at "Q"
  refine ⟨_, rfl, S, as1, sg, rfl, SqL.of eS, ga1, ha, by lia, by lia, oks, fun TL H2 qs ts nT s2 eT pr lq tr tF => ⟨TL, rfl, ⟨_, SqL.of eT⟩, fun D nD => ?_⟩⟩
  refine Tq (as := qs) (bs := ts) (fun H q t => H q = some (.tup t.vs)) (fun _ _ _ _ s e => s.get e)
   (fun H y q t => ∃ p L, y = V.ref p ∧ L ≠ D ∧ H1 L = none ∧ H p = some (.tup [.ref L, .ref q]) ∧ H L = some (.lst ((AT (sg.filter (Jk t.a t.b t.c t.d))).map V.int)) ∧ H q = some (.tup t.vs))
   (fun _ _ _ _ _ s zq => by obtain ⟨p, L, e1, e2, e3, e4, e5, e6⟩ := zq; exact ⟨p, L, e1, e2, e3, s.get e4, s.get e5, s.get e6⟩) ?_ (SqL.of eT) pr nD (by lia) ?_ ?_
  ·rintro H3 v q t xs ys h1 h2 ⟨p, L, e1, e2, e3, e4, e5, e6⟩
   have n1 : p ≠ D := fun z => by rw [z, h1] at e4; cases e4
   have n2 : q ≠ D := fun z => by rw [z, h1] at e6; cases e6
   exact ⟨p, L, e1, e2, e3, (AL n1).trans e4, (AL e2).trans e5, (AL n2).trans e6⟩
  ·intro q t H3 R ht s3 hD eq kR
   have ot := tr.ok t ht
   refine ⟨_, rfl, _, rfl, q, S, t.a, t.b, t.c, t.d, as1, sg, rfl, eq, TW ot.b0 ot.d0 ot.a1 ot.b1 ot.c1 ot.d1, (s2.trans s3).seq (SqL.of eS), ga1.same (s2.trans s3), by lia, oks, fun L H4 nL s4 eL => ?_⟩
   refine ⟨_, rfl, by show 2 ≤ _; rw [PySem.sizeLine_eq]; decide, fun p H5 nP s5 eP => ?_⟩
   exact kR _ _ (s4.trans s5) ⟨p, L, rfl, fun z => hD (by rw [← z]; exact nL), (s2.trans s3).free nL, eP, s5.get eL, (s4.trans s5).get eq⟩
  ·intro H3 ys s3 eD ly prs
   walk_at "NX"
   have lqt : qs.length = ts.length := Paired.length pr
   have s03 := s1.trans (s2.trans s3)
   have tb3 := BV tb s03
   obtain ⟨pt, ept⟩ := tb3.tab
   have l0 : 0 < ts.length := List.length_pos_iff.mpr tr.ne
   refine ⟨_, rfl, D, ys, (fun i => match ts[i]? with | some t => LX sg t | none => 0), rfl, SqL.of eD, by lia, tb3, fun i y hy => ?_, fun i y H4 hy best tb4 k4 => ?_⟩
   ·obtain ⟨q, t, h1, h2, p, L, rfl, nLD, nL, e4, e5, e6⟩ := prs i y hy
    refine ⟨p, L, [.ref q], _, rfl, SqT.of e4, SqL.of e5, ?_⟩
    dsimp only
    rw [h2, z5, AT, z5]
    rfl
   ·obtain ⟨q, t, h1, h2, p, L, rfl, nLD, nL, e4, e5, e6⟩ := prs i y hy
    have n1 : p ≠ CG := fun z => by rw [z, ept] at e4; cases e4
    have n2 : L ≠ CG := fun z => by rw [z, ept] at e5; cases e5
    have n3 : q ≠ CG := fun z => by rw [z, ept] at e6; cases e6
    refine k p H4 L q t sg (s1.free nL) (fun b u n e => k4 b u n (s03.get e)) tb4 ⟨k4 p _ n1 e4, k4 L _ n2 e5, k4 q _ n3 e6, tr.ok t (zU h2), hp, ha, fun u w m hm ps hs hpp => Rq tr oks ha (fun t' ht' => ?_) u w m hm ps hs hpp⟩ ?_
    rotate_left
    ·rw [tF] at h2 best lqt
     refine ⟨i, h2, fun j t' ej => ?_⟩
     have hj := (zA.mp ej).1
     have := best j (by lia)
     dsimp only at this
     rw [ej, h2] at this
     exact this
    obtain ⟨j, ej⟩ := zp.mp ht'
    have hj := (zA.mp ej).1
    have := (best j (by lia)).1
    dsimp only at this
    rw [ej, h2] at this
    exact this
theorem Iv : AR ["gate", "number"] ["gate"] (AG Fw) := by walk_at "SC"
noncomputable def N6 {K : W.Frag} {mg : Str → Option Value} (T : Tx K mg) : Sp := fun vs H Q E => ∃ (q : Addr) (p f h : Int), vs = [.ref q] ∧ H q = some (.tup [.int p, .int f, .int h]) ∧ (∀ e, DY p f h = some e → E (T.err e) none H) ∧ (DY p f h = none → Q .non H)
theorem JC (T : Tx K mg) : Af P w K mg base (CXE P w) 1 T.KM T.Ir ["gate"] (N6 T) := by
 refine T.Fk.F.okX Iv (fun _ _ _ _ h => by walk_at "LN") ?_
 ·walk_at "I2"
  obtain ⟨q, p, f, h, rfl, hq, kE, k⟩ := h
  refine ⟨_, (AD (AY (ptc DI (pxi AS (pv 0) AB) (pxi AS (pv 0) AB)) (AE (BG EF rfl T.QB (by rfl) T.Ko (AA AV AC)))
    AO)
   (AE (BO Zd rfl (VQ (pv 0)) (pgn 1 Iv)
    (AE (AY (IT (ptc Ee (pv 1) (EZ (v := .int (-1000)) (by rfl) T.WP T.W6)) (Fy (ptc DI (pv 1) (EZ (v := .int (1000)) (by rfl) T.Rx T.SV)))).pt (AE (BG EF rfl T.JF (by rfl) T.Ef (AA AV AC)))
      AO))))), ?_⟩
  walk_at "RD"
  walk_at "AUTO"
  unfold DY at kE k
  by_cases hf : h < f
  ·rw [if_pos (z8 hf)]
   rw [if_pos hf] at kE
   exact ⟨by decide, kE _ rfl⟩
  rw [if_neg (fun z => hf (z6 z))]
  rw [if_neg hf] at kE k
  refine ⟨_, rfl, q, rfl, ⟨_, SqT.of hq⟩, S2 (xs := [V.int p, V.int f, V.int h]) (fun i σ H' => ∃ o, σ = [some (.ref q), o] ∧ H' = H ∧ ∀ x ∈ [p, f, h].take i, InB x) ⟨none, rfl, rfl, fun _ z => absurd z (by simp)⟩ (fun _ _ _ _ ⟨_, _, e, _⟩ => SqT.of (e ▸ hq)) ?_ ?_⟩
  ·rintro i v σ H1 hx ⟨o, rfl, rfl, hi⟩
   have hil : i < [p, f, h].length := (zA.mp hx).1
   have ev : v = V.int [p, f, h][i] := by
    have hx : ([p, f, h].map V.int)[i]? = some v := hx
    rw [zJ, z4 hil] at hx
    exact (zN hx).symm
   subst ev
   have hmem := zV hil
   have htk : [p, f, h].take (i + 1) = [p, f, h].take i ++ [[p, f, h][i]] := zM hil
   generalize [p, f, h][i] = x at *
   walk_at "RD"
   by_cases h1 : x < -1000
   ·rw [if_pos (z8 h1)]
    rw [if_neg (fun z => by simp at hmem; rcases hmem with rfl | rfl | rfl <;> lia)] at kE
    exact ⟨by decide, kE _ rfl⟩
   rw [if_neg (fun z => h1 (z6 z))]
   by_cases h2 : 1000 < x
   ·rw [if_pos (z8 h2)]
    rw [if_neg (fun z => by simp at hmem; rcases hmem with rfl | rfl | rfl <;> lia)] at kE
    exact ⟨by decide, kE _ rfl⟩
   rw [if_neg (fun z => h2 (z6 z))]
   refine ⟨⟨_, rfl⟩, fun y hy => ?_⟩
   rw [htk] at hy
   rcases zb.mp hy with z | z
   ·exact hi y z
   ·rw [zK.mp z]
    exact ⟨by lia, by lia⟩
  ·rintro σ H1 ⟨o, rfl, rfl, hi⟩
   exact k (if_pos ⟨hi p (by simp), hi f (by simp), hi h (by simp)⟩)
theorem MP : AR ["places"] ["places"] (AG EH) := by walk_at "SC"
noncomputable def MU {K : W.Frag} {mg : Str → Option Value} (T : Tx K mg) : Sp := fun vs H Q E => ∃ (l : Addr) (ps : List Int), vs = [.ref l] ∧ SqL K H l (ps.map V.int) ∧ ps.length < 4000 ∧ (EM ps → ∀ H', AI H H' → E (T.err .badlist) none H') ∧ (¬ EM ps → ∀ H', AI H H' → Q .non H')
theorem MK (T : Tx K mg) : Af P w K mg base (CXE P w) 1 T.Gw T.GO ["places"] (MU T) := by
 refine T.Hb.F.okX MP (fun _ _ _ _ h => by walk_at "LN") ?_
 ·walk_at "I2"
  obtain ⟨l, ps, rfl, hl, h4, kE, k⟩ := h
  refine ⟨_, (AD (AY (ptc Au (AH AJ (by rfl) T.Am Ac (AA (pv 0) AC)) AB) (AE (BG EF rfl T.Lr (by rfl) T.K3 (AA AV AC)))
    AO)
   (AD (AY (ptc DI (AH AJ (by rfl) T.Am Ac (AA (pv 0) AC)) (EZ (v := .int (40)) (by rfl) T.KQ T.KZ)) (AE (BG EF rfl T.Lr (by rfl) T.K3 (AA AV AC)))
    AO)
   (AE (AY (ptc Ee (AH Tu (by rfl) T.Am Ac (AA (CO (Te (by rfl)) (by rfl) T.z_set Xe (AA (pv 0) AC)) AC)) (AH AJ (by rfl) T.Am Ac (AA (pv 0) AC))) (AE (BG EF rfl T.Lr (by rfl) T.K3 (AA AV AC)))
    AO)))), ?_⟩
  walk_at "RD"
  refine ⟨_, .inl hl, ?_⟩
  rw [z5]
  by_cases h0 : ps.length = 0
  ·rw [if_pos (z8 (by lia))]
   exact ⟨by decide, kE (.inl (List.length_eq_zero_iff.mp h0)) _ (AI.refl _)⟩
  rw [if_neg (fun z => h0 (by have := z6 z; lia))]
  refine ⟨_, .inl hl, ?_⟩
  rw [z5]
  by_cases h1 : 40 < ps.length
  ·rw [if_pos (z8 (by lia))]
   exact ⟨by decide, kE (.inr (.inl h1)) _ (AI.refl _)⟩
  rw [if_neg (fun z => h1 (by have := z6 z; lia))]
  refine ⟨ps, hl, h4, fun D H1 S n n1 s1 e1 le iff => ⟨S, n, e1, _, .inl (s1.seq hl), ?_⟩⟩
  rw [z5]
  by_cases h2 : n < ps.length
  ·rw [if_pos (z8 (by lia))]
   exact ⟨by decide, kE (.inr (.inr fun z => by have := iff.mpr z; lia)) _ s1⟩
  rw [if_neg (fun z => h2 (by have := z6 z; lia))]
  refine k (fun z => ?_) _ s1
  rcases z with z | z | z
  ·rw [z] at h0; exact h0 rfl
  ·exact h1 z
  ·exact z (iff.mp (by lia))
theorem Gv : AR ["throw", "number"] ["throw"] (AG E6) := by walk_at "SC"
noncomputable def Mc {K : W.Frag} {mg : Str → Option Value} (T : Tx K mg) : Sp := fun vs H Q E => ∃ (q : Addr) (a b c d : Int), vs = [.ref q] ∧ H q = some (.tup [.int a, .int b, .int c, .int d]) ∧ (RD a b c d → E (T.err .badthrow) none H) ∧ (¬ RD a b c d → Q .non H)
theorem NW (T : Tx K mg) : Af P w K mg base (CXE P w) 1 T.Ij T.G5 ["throw"] (Mc T) := by
 refine T.Ia.F.okX Gv (fun _ _ _ _ h => by walk_at "LN") ?_
 ·walk_at "I2"
  obtain ⟨q, a, b, c, d, rfl, hq, kE, k⟩ := h
  refine ⟨_, (AD (AY (IT (ptc Ee (pxi AS (pv 0) AB) AB) (Fy (ptc Ee (pxi AS (pv 0) AB) AB))).pt (AE (BG EF rfl T.NH (by rfl) T.Nk (AA AV AC)))
    AO)
   (AE (BO Zd rfl (VQ (pv 0)) (pgn 1 Gv)
    (AE (AY (IT (ptc Ee (pv 1) (Ci Bp (EZ (v := .int (999999999)) (by rfl) T.Hd T.G6))) (Fy (ptc DI (pv 1) (EZ (v := .int (999999999)) (by rfl) T.Hd T.G6)))).pt (AE (BG EF rfl T.NH (by rfl) T.Nk (AA AV AC)))
      AO))))), ?_⟩
  walk_at "RD"
  walk_at "AUTO"
  by_cases h1 : b < 1
  ·rw [if_pos (z8 h1)]
   exact ⟨by decide, kE (.inl h1)⟩
  rw [if_neg (fun z => h1 (z6 z))]
  walk_at "AUTO"
  by_cases h2 : d < 1
  ·rw [if_pos (z8 h2)]
   exact ⟨by decide, kE (.inr (.inl h2))⟩
  rw [if_neg (fun z => h2 (z6 z))]
  refine ⟨_, rfl, q, rfl, ⟨_, SqT.of hq⟩, S2 (xs := [V.int a, V.int b, V.int c, V.int d]) (fun i σ H' => ∃ o, σ = [some (.ref q), o] ∧ H' = H ∧ ∀ x ∈ [a, b, c, d].take i, ¬ (x < -999999999 ∨ 999999999 < x)) ⟨none, rfl, rfl, fun _ z => absurd z (by simp)⟩ (fun _ _ _ _ ⟨_, _, e, _⟩ => SqT.of (e ▸ hq)) ?_ ?_⟩
  ·rintro i v σ H1 hx ⟨o, rfl, rfl, hi⟩
   have hil : i < [a, b, c, d].length := (zA.mp hx).1
   have ev : v = V.int [a, b, c, d][i] := by
    have hx : ([a, b, c, d].map V.int)[i]? = some v := hx
    rw [zJ, z4 hil] at hx
    exact (zN hx).symm
   subst ev
   have hmem := zV hil
   have htk : [a, b, c, d].take (i + 1) = [a, b, c, d].take i ++ [[a, b, c, d][i]] := zM hil
   generalize [a, b, c, d][i] = x at *
   walk_at "RD"
   by_cases h3 : x < -999999999
   ·rw [if_pos (z8 h3)]
    exact ⟨by decide, kE (.inr (.inr ⟨x, hmem, .inl h3⟩))⟩
   rw [if_neg (fun z => h3 (z6 z))]
   by_cases h4 : 999999999 < x
   ·rw [if_pos (z8 h4)]
    exact ⟨by decide, kE (.inr (.inr ⟨x, hmem, .inr h4⟩))⟩
   rw [if_neg (fun z => h4 (z6 z))]
   refine ⟨⟨_, rfl⟩, fun y hy => ?_⟩
   rw [htk] at hy
   rcases zb.mp hy with z | z
   ·exact hi y z
   ·rw [zK.mp z]
    exact fun z => z.elim h3 h4
  ·rintro σ H1 ⟨o, rfl, rfl, hi⟩
   refine k fun z => ?_
   rcases z with z | z | ⟨x, hx, z⟩
   ·exact h1 z
   ·exact h2 z
   ·exact hi x hx z
theorem OA : AR ["self"] ["self"] (AG Fo) := by walk_at "SC"
noncomputable def JU {K : W.Frag} {mg : Str → Option Value} (T : Tx K mg) : Sp := fun vs H Q _ => ∃ (b dx : Addr), vs = [.ref b] ∧ H b = some (.ins T.AQ dx []) ∧ ∀ H' S P, H S = none → H P = none → (∀ a u, a ≠ b → H a = some u → H' a = some u) → Bch T.AQ H' b S P [S, P] [] [] → Q .non H'
theorem VZ {K : W.Frag} {mg : Str → Option Value} {T : Tx K mg} {H : Hp} {Q : Addr → Hp → Prop} {E : XK} (k : ∀ b S P H', H b = none → H S = none → H P = none → AI H H' → Bch T.AQ H' b S P [S, P] [] [] → Q b H') :
  ∀ x dx, H x = none → H dx = none → dx ≠ x → JU T [V.ref x] (upd (upd H dx (.own x)) x (.ins T.AQ dx [])) (fun v H2 => v = V.non ∧ Q x H2) E := fun x dx nx nd hd => by
 refine ⟨x, dx, rfl, AN, fun H' S P nS nP kp hb => ⟨rfl, k x S P H' nx ?_ ?_ (fun a u e => kp a u (Ah e nx) ?_) hb⟩⟩
 ·have h1 : S ≠ x := fun z => by rw [z, AN] at nS; cases nS
  have h2 : S ≠ dx := fun z => by rw [AL h1, z, AN] at nS; cases nS
  rwa [AL h1, AL h2] at nS
 ·have h1 : P ≠ x := fun z => by rw [z, AN] at nP; cases nP
  have h2 : P ≠ dx := fun z => by rw [AL h1, z, AN] at nP; cases nP
  rwa [AL h1, AL h2] at nP
 ·rw [AL (Ah e nx), AL (Ah e nd)]
  exact e
theorem Of (T : Tx K mg) : Af P w K mg base CX0 1 T.F8 T.Iw ["self"] (JU T) := by
 refine T.KU.F.ok OA (fun _ _ _ _ h => by walk_at "LN") ?_
 ·walk_at "I2"
  obtain ⟨b, dx, rfl, hb, k⟩ := h
  refine ⟨_, (AD (N1 (pv 0) (Ae AC) rfl)
   (AE (N1 (pv 0) (Ae AC) rfl))), ?_⟩
  walk_at "RD"
  refine ⟨by decide, fun S H1 nS s1 eS => ⟨_, dx, _, s1.get hb, T.AU, T.Ab, by decide, by decide, fun P H2 nP s2 eP => ?_⟩⟩
  have sb : S ≠ b := Ah hb nS |>.symm
  refine ⟨_, dx, _, s2.get AN, T.AU, T.A9, (by show 1 < 1000; decide), ?_⟩
  have nP1 : H1 P = none := by
   have hPb : P ≠ b := fun z => by rw [z, AN] at nP; cases nP
   rw [AL hPb] at nP
   exact nP
  have eS2 : H2 S = some (.lst []) := s2.get ((AL sb).trans eS)
  have pb : P ≠ b := (Ah (s1.get hb) nP1).symm
  have ps : P ≠ S := (Ah eS nP1).symm
  refine k _ S P nS (s1.free nP1) (fun a u ha e => ?_) ?_
  ·rw [AL ha]
   exact s2.get ((AL ha).trans (s1.get e))
  ·refine ⟨⟨dx, AN⟩, ⟨[], (AL sb).trans eS2, .nil⟩, ⟨[], (AL pb).trans eP, .nil, fun _ h => absurd h (by simp)⟩, ps.symm, by simp, by simp, ⟨List.Pairwise.nil, fun _ h => absurd h (by simp), by decide⟩, fun _ h => absurd h (by simp), by decide, fun a ha => ?_⟩
   simp at ha
   rcases ha with rfl | rfl
   ·exact ⟨_, (AL sb).trans eS2⟩
   ·exact ⟨_, (AL pb).trans eP⟩
theorem KB : AR ["self", "place"] ["self", "place"] (AG Cu) := by walk_at "SC"
noncomputable def Kw {K : W.Frag} {mg : Str → Option Value} (T : Tx K mg) : Sp := fun vs H Q E => ∃ (b S P : Addr) (ow : List Addr) (gs : List G) (past : List (List G)) (p : Int), vs = [.ref b, .int p] ∧ Bch T.AQ H b S P ow gs past ∧ ∀ H', AI H H' → Q (.bl (decide (p ∈ AT gs))) H'
theorem Ku (T : Tx K mg) : Af P w K mg base CX0 1 T.FU T.EX ["self", "place"] (Kw T) := by
 refine T.Cv.F.ok KB (fun _ _ _ _ h => by walk_at "LN") ?_
 ·walk_at "I2"
  obtain ⟨b, S, P, ow, gs, past, p, rfl, hb, k⟩ := h
  refine ⟨_, (AE (AK (S9 T9 (pv 1) (F6 rfl (⟨rfl, by decide +kernel, by decide +kernel, by decide +kernel, rfl, by decide +kernel, by with_unfolding_all rfl, by rfl, by rfl, by rfl⟩ : BF _ _ "gate" [] []) (B4 (Br (pv 0) rfl)) (fun _ _ _ _  => (pxi (Km (K := K) rfl) (pv 0) AB)) (fun _ _ _ _ => Fj)) (by with_unfolding_all rfl)))), ?_⟩
  obtain ⟨dx, eb⟩ := hb.at_
  obtain ⟨as, es, ga⟩ := hb.st
  delta KJ
  refine ⟨_, dx, _, eb, T.AU, T.Ab, _, rfl, ?_⟩
  refine ⟨_, rfl, ⟨_, SqL.of es⟩, fun D nD => ?_⟩
  refine MH (fun _ => true) (fun g => V.int g.p) (SqL.of es) ga nD (by have := hb.std.len; lia) (fun v g H R hg s1 ev hR => ?_) (fun v g H R hg s1 ev hR => ?_) fun H1 s1 e1 => ?_
  ·exact hR
  ·delta qA
   exact ⟨_, SqT.of ev, _, rfl, hR⟩
  ·rw [Uh, show (gs.map fun g => V.int g.p) = (AT gs).map V.int from by rw [qN]; rfl] at e1
   refine ⟨_, .inl (SqL.of e1), rfl, V6 _, ?_⟩
   rw [TK]
   exact k _ s1
theorem FV : AR ["self", "place", "gate"] ["self", "place"] (AG DV) := by walk_at "SC"
noncomputable def Lp {K : W.Frag} {mg : Str → Option Value} (T : Tx K mg) : Sp := fun vs H Q E => ∃ (b S P : Addr) (ow : List Addr) (gs : List G) (past : List (List G)) (p : Int), vs = [.ref b, .int p] ∧ Bch T.AQ H b S P ow gs past ∧ (p ∉ AT gs → E (T.err .nogate) none H) ∧ ∀ D g, Ap gs p = some g → H D = some (.tup (G.vs g)) → Q (.ref D) H
theorem Cj (T : Tx K mg) : Af P w K mg base (CXE P w) 1 T.Ga T.FJ ["self", "place"] (Lp T) := by
 refine T.A6.F.okX FV (fun _ _ _ _ h => by walk_at "LN") ?_
 ·walk_at "I2"
  obtain ⟨b, S, P, ow, gs, past, p, rfl, hb, kE, k⟩ := h
  refine ⟨_, (AD (BO Zd rfl (B4 (Br (pv 0) rfl)) (pgn 2 FV)
    (AE (AY (ptc Au (pxi AS (pv 2) AB) (pv 1)) (AE (AK (pv 2)))
      AO)))
   (AE (BG EF rfl T.Vx (by rfl) T.Ql (AA AV AC)))), ?_⟩
  obtain ⟨dx, eb⟩ := hb.at_
  obtain ⟨as, es, ga⟩ := hb.st
  have las := ga.len
  delta KJ
  refine ⟨_, rfl, b, T.AQ, dx, _, _, rfl, eb, T.AU, T.Ab, rfl, S, rfl, ⟨_, SqL.of es⟩, HF (xs := as.map V.ref) (fun i σ H' => ∃ o, σ = [some (.ref b), some (.int p), o] ∧ H' = H ∧ ∀ g ∈ gs.take i, g.p ≠ p) ⟨none, rfl, rfl, fun _ z => absurd z (by simp)⟩ (fun _ _ _ _ ⟨_, _, e, _⟩ => SqL.of (e ▸ es)) ?_ ?_⟩
  ·rintro i v σ H1 hx ⟨o, rfl, rfl, hn⟩
   have hi : i < gs.length := by
    have := (zA.mp hx).1
    rw [z5] at this
    lia
   obtain ⟨a, ha, ea⟩ := ga.get (z4 hi)
   have ex : v = V.ref a := by
    rw [zJ, ha] at hx
    exact (zN hx).symm
   subst ex
   have hm := zV hi
   have htk : gs.take (i + 1) = gs.take i ++ [gs[i]] := zM hi
   generalize gs[i] = g at *
   walk_at "RD"
   refine ⟨_, SqT.of ea, _, rfl, rfl, ?_⟩
   by_cases hp : g.p = p
   ·rw [if_pos (z8 (by rw [hp]))]
    exact k a g (hp ▸ Hw hb.std.asc hm) ea
   ·rw [if_neg (fun z => hp (V.int.inj (z6 z)))]
    refine ⟨⟨_, rfl⟩, fun y hy => ?_⟩
    rw [htk] at hy
    rcases zb.mp hy with z | z
    ·exact hn y z
    ·rw [zK.mp z]
     exact hp
  ·rintro σ H1 ⟨o, rfl, rfl, hn⟩
   walk_at "RD"
   refine ⟨by decide, kE fun z => ?_⟩
   obtain ⟨g, hg, e⟩ := zf.mp z
   exact hn g (by rw [z5, las, zl]; exact hg) e
theorem Ff : AR ["self", "place", "instead", "others"] ["self", "place", "instead"] (AG DR) := by walk_at "SC"
noncomputable def K6 {K : W.Frag} {mg : Str → Option Value} (T : Tx K mg) : Sp := fun vs H Q E => ∃ (b S P : Addr) (ow : List Addr) (gs : List G) (past : List (List G)) (p : Int) (l : Addr) (ls : List Addr) (o : List G), vs = [.ref b, .int p, .ref l] ∧ Bch T.AQ H b S P ow gs past ∧ l ∉ ow ∧ H l = some (.lst (ls.map V.ref)) ∧ Ak H ls o ∧ (∀ g ∈ o, g.p = p) ∧ Std (DG gs p o) ∧ (300 ≤ past.length → E (T.err .deeds) none H) ∧ (past.length < 300 → ∀ H' S' ow' (D : Addr), Kp b P H H' → Bch T.AQ H' b S' P ow' (DG gs p o) (past ++ [gs]) → (∀ a ∈ ow', a ∈ ow ∨ H a = none) → Q .non H')
theorem C1 (T : Tx K mg) : Af P w K mg base (CXE P w) 1 T.Gh T.FO ["self", "place", "instead"] (K6 T) := by
 refine T.A7.F.okX Ff (fun _ _ _ _ h => by walk_at "LN") ?_
 ·walk_at "I2"
  obtain ⟨b, S, P, ow, gs, past, p, l, ls, o, rfl, hb, hlo, el, go, hop, std, kE, k⟩ := h
  refine ⟨_, (AD (AY (ptc Sw (AH AJ (by rfl) T.Am Ac (AA (Br (pv 0) rfl) AC)) (EZ (v := .int (300)) (by rfl) T.QG T.Pu)) (AE (BG EF rfl T.Qf (by rfl) T.Lu (AA AV AC)))
    AO)
   (AD (NF (i := 3) rfl Ff.nd rfl (Or.inl rfl) (⟨rfl, by decide +kernel, by decide +kernel, by decide +kernel, rfl, by decide +kernel, by with_unfolding_all rfl, by rfl, by rfl, by rfl⟩ : BF _ _ "gate" ["place"] [1]) (B4 (Br (pv 0) rfl)) (fun _ _ _ _  => (pv 0)) (fun _ _ _ _ => (TX (ptc GK (pxi (Km (K := K) rfl) (pv 0) AB) (pv 1)))))
   (AD (Av (BJ (Br (pv 0) rfl) (Br (pv 0) rfl)))
   (AE (N1 (pv 0) (AH Bj (by rfl) T.Bw BW (AA (AF QI (pv 3) (pv 2)) AC)) rfl))))), ?_⟩
  obtain ⟨dx, eb⟩ := hb.at_
  obtain ⟨as, es, ga⟩ := hb.st
  obtain ⟨ps, ep, pr, hps⟩ := hb.pa
  have lp := Paired.length pr
  walk_at "Q"
  walk_at "RD"
  refine ⟨_, dx, _, eb, T.AU, T.A9, _, rfl, ?_⟩
  refine ⟨_, rfl, _, .inl (SqL.of ep), ?_⟩
  rw [z5, lp]
  by_cases h3 : 300 ≤ past.length
  ·rw [if_pos (z8 (by lia))]
   exact ⟨by decide, kE h3⟩
  ·rw [if_neg (fun z => h3 (by have := z6 z; lia))]
   walk_at "NX"
   walk_at "Q"
   delta KJ
   refine ⟨_, dx, _, eb, T.AU, T.Ab, _, rfl, _, rfl, ⟨_, SqL.of es⟩, fun D nD => ?_⟩
   refine Qp (fun g => !decide (g.p = p)) (SqL.of es) ga nD (by have := hb.std.len; lia) (fun v g H1 R hg s1 ev hR => ?_) fun H1 as1 s1 e1 ga1 => ?_
   ·delta qA
    refine ⟨_, SqT.of ev, _, rfl, rfl, ?_⟩
    rw [show decide (V.int g.p = V.int p) = decide (g.p = p) from decide_eq_decide.mpr ⟨fun z => V.int.inj z, fun z => by rw [z]⟩]
    exact hR
   ·have eb1 := s1.get eb
    have ep1 := s1.get ep
    walk_at "NX"
    walk_at "Q"
    walk_at "RD"
    refine ⟨_, dx, _, eb1, T.AU, T.A9, _, rfl, _, rfl, ⟨_, ep1⟩, _, dx, _, eb1, T.AU, T.Ab, _, rfl, _, ep1, by rw [z5, lp, PySem.sizeLine_eq]; lia, ?_⟩
    walk_at "NX"
    walk_at "RD"
    have bP : b ≠ P := BQ eb ep (by simp)
    have lP : l ≠ P := fun z => hlo (by rw [z]; exact hb.po)
    have DP : D ≠ P := (Ah ep nD).symm
    have el1 : upd H1 P (.lst (ps.map V.ref ++ [V.ref S])) l = some (.lst (ls.map V.ref)) := (AL lP).trans (s1.get el)
    have e1' : upd H1 P (.lst (ps.map V.ref ++ [V.ref S])) D = some (.lst (as1.map V.ref)) := (AL DP).trans e1
    have lo := Ak.len go
    have l1 := Ak.len ga1
    have lf := zw (fun g : G => !decide (g.p = p)) gs
    have l40 := hb.std.len
    have lpo := M5 (gs := gs) (p := p) (o := o)
    have l40' := std.len
    refine ⟨_, e1', _, el1, by rw [z5, z5, PySem.sizeLine_eq]; lia, fun M H2 n2 s2 e2 => ?_⟩
    have kt : ∀ a xs, H a = some (.tup xs) → H2 a = some (.tup xs) := fun a xs e => s2.get ((AL (hb.nep e fun _ z => by cases z)).trans (s1.get e))
    have kt1 : ∀ a xs, H1 a = some (.tup xs) → H2 a = some (.tup xs) := fun a xs e => s2.get ((AL (BQ e ep1 (fun z => by cases z))).trans e)
    have ga2 : Ak H2 (as1 ++ ls) ((gs.filter fun g => !decide (g.p = p)) ++ o) := Ak.append (ga1.keep kt1) (go.keep kt)
    refine ⟨as1 ++ ls, by rw [zW]; exact SqL.of e2, _, ga2, ?_, by rw [zC]; lia, fun S' H3 as3 gs3 n3 s3 e3 ga3 pm ac => ?_⟩
    ·exact ((FS (gs := gs) (p := p) (o := o)).map G.p).nodup_iff.mp std.nd
    have eg : gs3 = DG gs p o := Bg ac std.asc (pm.trans FS.symm)
    subst eg
    have eP3 : H3 P = some (.lst ((ps ++ [S]).map V.ref)) := by rw [zW]; exact s3.get (s2.get AN)
    have eb3 : H3 b = some (.ins T.AQ dx [("standing", .ref S), ("past", .ref P)]) := s3.get (s2.get ((AL bP).trans eb1))
    have kp3 : Kp b P H H3 := fun a u h1 h2 e => s3.get (s2.get ((AL h2).trans (s1.get e)))
    have fr : ∀ a, H3 a = none → H a = none := fun a e => by
     cases q : H a with
     | none => rfl
     | some u =>
      by_cases hb' : a = b
      ·rw [hb', eb3] at e; cases e
      ·by_cases hP : a = P
       ·rw [hP, eP3] at e; cases e
       ·rw [kp3 a u hb' hP q] at e; cases e
    have n3H : H S' = none := by
     cases q : H S' with
     | none => rfl
     | some u =>
      by_cases hb' : S' = b
      ·rw [hb', s2.get ((AL bP).trans eb1)] at n3; cases n3
      ·by_cases hP : S' = P
       ·rw [hP, s2.get AN] at n3; cases n3
       ·rw [s2.get ((AL hP).trans (s1.get q))] at n3; cases n3
    have Sb : S' ≠ b := (Ah eb n3H).symm
    have SP' : S' ≠ P := (Ah ep n3H).symm
    have kt3 : ∀ a xs, H a = some (.tup xs) → H3 a = some (.tup xs) := fun a xs e => s3.get (kt a xs e)
    have kb : ∀ a xs, H3 a = some (.tup xs) → upd H3 b (.ins T.AQ dx [("standing", .ref S'), ("past", .ref P)]) a = some (.tup xs) := fun a xs e => (AL (BQ e eb3 (fun z => by cases z))).trans e
    refine ⟨_, dx, _, eb3, T.AU, T.Ab, by show 2 < 1000; decide, k (by lia) _ S' (S' :: S :: ow) S' (kp3.upd (.inl rfl)) ?_ fun a ha => ?_⟩
    ·refine ⟨⟨dx, AN⟩, ⟨as3, (AL Sb).trans e3, ga3.keep kb⟩, ⟨ps ++ [S], (AL bP.symm).trans eP3, Paired.snoc (Paired.keepM pr fun x y hx q => ?_) ?_, fun a ha => ?_⟩, SP', by simp, by simp [hb.po], std, fun x hx => ?_, by rw [zC]; simp only [List.length_singleton]; lia, fun a ha => ?_⟩
     ·have hxo := hps x hx
      obtain ⟨_, ex⟩ := hb.lv x hxo.1
      have hxb : x ≠ b := hb.neb ex fun _ _ _ z => by cases z
      exact q.keep (fun u e => (AL hxb).trans (kp3 x u hxb hxo.2 e)) fun a xs e => kb a xs (kt3 a xs e)
     ·have hSb : S ≠ b := hb.neb es fun _ _ _ z => by cases z
      exact hb.st.keep (fun u e => (AL hSb).trans (kp3 S u hSb hb.sp e)) fun a xs e => kb a xs (kt3 a xs e)
     ·rcases zb.mp ha with z | z
      ·exact ⟨by simp [(hps a z).1], (hps a z).2⟩
      ·rw [zK.mp z]; exact ⟨by simp, hb.sp⟩
     ·rcases zb.mp hx with z | z
      ·exact hb.stds x z
      ·rw [zK.mp z]; exact hb.std
     ·have hown : ∀ a ∈ ow, ∃ xs, upd H3 b (.ins T.AQ dx [("standing", .ref S'), ("past", .ref P)]) a = some (.lst xs) := fun a ha => by
       obtain ⟨xs, ex⟩ := hb.lv a ha
       have hxb : a ≠ b := hb.neb ex fun _ _ _ z => by cases z
       by_cases hP : a = P
       ·rw [hP]; exact ⟨_, (AL bP.symm).trans eP3⟩
       ·exact ⟨xs, (AL hxb).trans (kp3 a _ hxb hP ex)⟩
      rcases zL.mp ha with z | z
      ·rw [z]; exact ⟨_, (AL Sb).trans e3⟩
      ·rcases zL.mp z with z | z
       ·rw [z]; exact hown S hb.so
       ·exact hown a z
    ·rcases zL.mp ha with z | z
     ·rw [z]; exact .inr n3H
     ·rcases zL.mp z with z | z
      ·rw [z]; exact .inl hb.so
      ·exact .inl z
theorem KD : AR ["self", "place", "foot", "head", "gate"] ["self", "place", "foot", "head"] (AG Hg) := by walk_at "SC"
noncomputable def P3 {K : W.Frag} {mg : Str → Option Value} (T : Tx K mg) : Sp := fun vs H Q E => ∃ (b S P : Addr) (ow : List Addr) (gs : List G) (past : List (List G)) (p f h : Int), vs = [.ref b, .int p, .int f, .int h] ∧ Bch T.AQ H b S P ow gs past ∧ (∀ e, Jd gs past p f h = some e → ∀ H', AI H H' → E (T.err e) none H') ∧ (Jd gs past p f h = none → ∀ H' S' ow' (D : Addr), Kp b P H H' → Bch T.AQ H' b S' P ow' (DG gs p [⟨p, f, h⟩]) (past ++ [gs]) → (∀ a ∈ ow', a ∈ ow ∨ H a = none) → H' D = some (.tup [.int p, .int f, .int h]) → Q (.ref D) H')
theorem QW (T : Tx K mg) : Af P w K mg base (CXE P w) 2 T.Lz T.Ke ["self", "place", "foot", "head"] (P3 T) := by
 refine T.HZ.F.okX KD (fun _ _ _ _ h => by walk_at "LN") ?_
 ·walk_at "I2"
  obtain ⟨b, S, P, ow, gs, past, p, f, h', rfl, hb, kE, k⟩ := h
  refine ⟨_, (AD (AY (Bb (BR (pv 0) T.AU T.Cv.mt (Ku T) (hr.mono (by decide)) T.Cv.b .nil AW (AA (pv 1) AC))) (AE (BG EF rfl T.WS (by rfl) T.TR (AA AV AC)))
    AO)
   (AD (pst 4 KD (AZ (AA (pv 1) (AA (pv 2) (AA (pv 3) AC)))))
   (AD (Av (pcl T.Fk (JC T) hr EW (AA (pv 4) AC)))
   (AD (AY (ptc Sw (AH AJ (by rfl) T.Am Ac (AA (Br (pv 0) rfl) AC)) (EZ (v := .int (40)) (by rfl) T.KQ T.KZ)) (AE (BG EF rfl T.Qg (by rfl) T.Lw (AA AV AC)))
    AO)
   (AD (Av (BR (pv 0) T.AU T.A7.mt (C1 T) (hr.mono (by decide)) T.A7.b .nil EW (AA (pv 1) (AA (Ae (AA (pv 4) AC)) AC))))
   (AE (AK (pv 4)))))))), ?_⟩
  obtain ⟨dx, eb⟩ := hb.at_
  obtain ⟨as, es, ga⟩ := hb.st
  have las := ga.len
  walk_at "Q"
  walk_at "RD"
  refine ⟨_, _, eb, rfl, b, S, P, ow, gs, past, p, rfl, hb, fun H1 s1 => ?_⟩
  have hb1 := hb.same s1
  by_cases hp : p ∈ AT gs
  ·refine ⟨_, rfl, ?_⟩
   rw [if_pos (z8 hp)]
   exact ⟨by decide, kE .taken (by unfold Jd; rw [if_pos hp]) _ s1⟩
  refine ⟨_, rfl, ?_⟩
  rw [if_neg (fun z => hp (z6 z))]
  walk_at "NX"
  walk_at "Q"
  walk_at "RD"
  refine ⟨by decide, fun q H2 n2 s2 e2 => ?_⟩
  walk_at "NX"
  walk_at "Q"
  walk_at "RD"
  refine ⟨q, p, f, h', rfl, e2, fun e he => kE e (by unfold Jd; rw [if_neg hp, he]; rfl) _ (s1.trans s2), fun hok => ?_⟩
  have hb2 := hb1.same s2
  obtain ⟨dx, eb⟩ := hb2.at_
  obtain ⟨as, es, ga⟩ := hb2.st
  have las := ga.len
  walk_at "NX"
  walk_at "Q"
  walk_at "RD"
  refine ⟨_, dx, _, eb, T.AU, T.Ab, _, rfl, _, rfl, _, .inl (SqL.of es), ?_⟩
  rw [z5, las]
  by_cases h4 : 40 ≤ gs.length
  ·rw [if_pos (z8 (by lia))]
   exact ⟨by decide, kE .full (by unfold Jd; rw [if_neg hp, hok, if_pos h4]; rfl) _ (s1.trans s2)⟩
  rw [if_neg (fun z => h4 (by have := z6 z; lia))]
  walk_at "NX"
  walk_at "RD"
  refine ⟨dx, _, eb, rfl, by decide, fun l H3 n3 s3 e3 => ?_⟩
  have hb3 := hb2.same s3
  have ok := GF.mp hok
  refine ⟨b, S, P, ow, gs, past, p, l, [q], [⟨p, f, h'⟩], rfl, hb3, fun z => ?_, e3, .cons (s3.get e2) .nil, fun g hg => by rw [zK.mp hg], hb.std.put ok (by rw [RU hp]; lia), fun h3 => kE .deeds (by unfold Jd; rw [if_neg hp, hok, if_neg h4, if_pos h3]; rfl) _ (s1.trans (s2.trans s3)), fun h3 H4 S' ow' _ k4 b4 o4 => ?_⟩
  ·exact hb2.off n3 z
  ·refine k (by unfold Jd; rw [if_neg hp, hok, if_neg h4, if_neg (by lia)]; rfl) H4 S' ow' q ((Kp.of (s1.trans (s2.trans s3))).trans k4) b4 (fun a ha => ?_) (hb3.tup k4 (s3.get e2))
   exact (o4 a ha).imp id fun z => (s1.trans (s2.trans s3)).free z
theorem IY : AR ["self", "place", "gate"] ["self", "place"] (AG F7) := by walk_at "SC"
noncomputable def Og {K : W.Frag} {mg : Str → Option Value} (T : Tx K mg) : Sp := fun vs H Q E => ∃ (b S P : Addr) (ow : List Addr) (gs : List G) (past : List (List G)) (p : Int), vs = [.ref b, .int p] ∧ Bch T.AQ H b S P ow gs past ∧ (∀ e, Gg gs past p = some e → ∀ H', AI H H' → E (T.err e) none H') ∧ (∀ g, Ap gs p = some g → Gg gs past p = none → ∀ H' S' ow' (D : Addr), Kp b P H H' → Bch T.AQ H' b S' P ow' (DG gs p []) (past ++ [gs]) → (∀ a ∈ ow', a ∈ ow ∨ H a = none) → H' D = some (.tup (G.vs g)) → Q (.ref D) H')
theorem Oi (T : Tx K mg) : Af P w K mg base (CXE P w) 2 T.J6 T.JB ["self", "place"] (Og T) := by
 refine T.Fu.F.okX IY (fun _ _ _ _ h => by walk_at "LN") ?_
 ·walk_at "I2"
  obtain ⟨b, S, P, ow, gs, past, p, rfl, hb, kE, k⟩ := h
  refine ⟨_, (AD (pst 2 IY (BR (pv 0) T.AU T.A6.mt (Cj T) (hr.mono (by decide)) T.A6.b .nil EW (AA (pv 1) AC)))
   (AD (Av (BR (pv 0) T.AU T.A7.mt (C1 T) (hr.mono (by decide)) T.A7.b .nil EW (AA (pv 1) (AA (Ae AC) AC))))
   (AE (AK (pv 2))))), ?_⟩
  obtain ⟨dx, eb⟩ := hb.at_
  walk_at "RD"
  refine ⟨dx, _, eb, rfl, b, S, P, ow, gs, past, p, rfl, hb, fun hp => kE .nogate (by unfold Gg; rw [if_neg hp]) _ (AI.refl _), fun D g hg eD => ?_⟩
  obtain ⟨hgm, hgp⟩ := Bc hg
  have hp : p ∈ AT gs := zf.mpr ⟨g, hgm, hgp⟩
  refine ⟨dx, _, eb, rfl, by decide, fun l H1 n1 s1 e1 => ?_⟩
  have hb1 := hb.same s1
  refine ⟨b, S, P, ow, gs, past, p, l, [], [], rfl, hb1, hb.off n1, e1, .nil, fun g hg => absurd hg (by simp), hb.std.take, fun h3 => kE .deeds (by unfold Gg DU; rw [if_pos hp, if_pos h3]) _ s1, fun h3 H4 S' ow' _ k4 b4 o4 => ?_⟩
  exact k g hg (by unfold Gg DU; rw [if_pos hp, if_neg (by lia)]) H4 S' ow' D ((Kp.of s1).trans k4) b4 (fun a ha => (o4 a ha).imp id s1.free) (hb1.tup k4 (s1.get eD))
theorem Es : AR ["self", "place", "foot_by", "head_by", "before", "gate"] ["self", "place", "foot_by", "head_by"] (AG GA) := by walk_at "SC"
noncomputable def Ob {K : W.Frag} {mg : Str → Option Value} (T : Tx K mg) : Sp := fun vs H Q E => ∃ (b S P : Addr) (ow : List Addr) (gs : List G) (past : List (List G)) (p x y : Int), vs = [.ref b, .int p, .int x, .int y] ∧ Bch T.AQ H b S P ow gs past ∧ (∀ e, Db gs past p x y = some e → ∀ H', AI H H' → E (T.err e) none H') ∧ (∀ g, Ap gs p = some g → Db gs past p x y = none → ∀ H' S' ow' (D : Addr), Kp b P H H' → Bch T.AQ H' b S' P ow' (DG gs p [⟨p, g.f + x, g.h + y⟩]) (past ++ [gs]) → (∀ a ∈ ow', a ∈ ow ∨ H a = none) → H' D = some (.tup [.int p, .int (g.f + x), .int (g.h + y)]) → Q (.ref D) H')
theorem Iq (T : Tx K mg) : Af P w K mg base (CXE P w) 2 T.Kj T.JK ["self", "place", "foot_by", "head_by"] (Ob T) := by
 refine T.CV.F.okX Es (fun _ _ _ _ h => by walk_at "LN") ?_
 ·walk_at "I2"
  obtain ⟨b, S, P, ow, gs, past, p, x, y, rfl, hb, kE, k⟩ := h
  refine ⟨_, (AD (pst 4 Es (BR (pv 0) T.AU T.A6.mt (Cj T) (hr.mono (by decide)) T.A6.b .nil EW (AA (pv 1) AC)))
   (AD (pst 5 Es (AZ (AA (pxi AS (pv 4) AB) (AA (AF Ag (pxi AS (pv 4) AB) (pv 2)) (AA (AF Ag (pxi AS (pv 4) AB) (pv 3)) AC)))))
   (AD (Av (pcl T.Fk (JC T) hr EW (AA (pv 5) AC)))
   (AD (Av (BR (pv 0) T.AU T.A7.mt (C1 T) (hr.mono (by decide)) T.A7.b .nil EW (AA (pv 1) (AA (Ae (AA (pv 5) AC)) AC))))
   (AE (AK (pv 5))))))), ?_⟩
  obtain ⟨dx, eb⟩ := hb.at_
  walk_at "Q"
  walk_at "RD"
  refine ⟨dx, _, eb, rfl, b, S, P, ow, gs, past, p, rfl, hb, fun hp => kE .nogate (by unfold Db; rw [CM.mpr hp]) _ (AI.refl _), fun D g hg eD => ?_⟩
  obtain ⟨hgm, hgp⟩ := Bc hg
  have le : Db gs past p x y = (DY p (g.f + x) (g.h + y)).or (DU past) := by unfold Db; rw [hg]
  walk_at "NX"
  walk_at "Q"
  walk_at "RD"
  refine ⟨_, SqT.of eD, _, rfl, _, SqT.of eD, _, rfl, _, rfl, _, SqT.of eD, _, rfl, _, rfl, by decide, fun q H1 n1 s1 e1 => ?_⟩
  rw [hgp] at e1
  walk_at "NX"
  walk_at "Q"
  walk_at "RD"
  refine ⟨q, p, g.f + x, g.h + y, rfl, e1, fun e he => kE e (by rw [le, he]; rfl) _ s1, fun hok => ?_⟩
  have hb1 := hb.same s1
  obtain ⟨dx, eb⟩ := hb1.at_
  walk_at "NX"
  walk_at "RD"
  refine ⟨dx, _, eb, rfl, by decide, fun l H2 n2 s2 e2 => ?_⟩
  have hb2 := hb1.same s2
  refine ⟨b, S, P, ow, gs, past, p, l, [q], [⟨p, g.f + x, g.h + y⟩], rfl, hb2, hb1.off n2, e2, .cons (s2.get e1) .nil, fun g hg => by rw [zK.mp hg], hb.std.put (GF.mp hok) (by rw [← hgp]; exact zF (YO hgm) hb.std.len), fun h3 => kE .deeds (by rw [le, hok]; unfold DU; rw [if_pos h3]; rfl) _ (s1.trans s2), fun h3 H4 S' ow' _ k4 b4 o4 => ?_⟩
  exact k g hg (by rw [le, hok]; unfold DU; rw [if_neg (by lia)]; rfl) H4 S' ow' q ((Kp.of (s1.trans s2)).trans k4) b4 (fun a ha => (o4 a ha).imp id (s1.trans s2).free) (hb2.tup k4 (s2.get e1))
theorem OH : AR ["self", "place", "foot_by", "head_by"] ["self", "place", "foot_by", "head_by"] (AG Fm) := by walk_at "SC"
noncomputable def OV {K : W.Frag} {mg : Str → Option Value} (T : Tx K mg) : Sp := fun vs H Q E => ∃ (b S P : Addr) (ow : List Addr) (gs : List G) (past : List (List G)) (p x y : Int), vs = [.ref b, .int p, .int x, .int y] ∧ Bch T.AQ H b S P ow gs past ∧ (∀ e, Db gs past p (-x) (-y) = some e → ∀ H', AI H H' → E (T.err e) none H') ∧ (∀ g, Ap gs p = some g → Db gs past p (-x) (-y) = none → ∀ H' S' ow' (D : Addr), Kp b P H H' → Bch T.AQ H' b S' P ow' (DG gs p [⟨p, g.f + (-x), g.h + (-y)⟩]) (past ++ [gs]) → (∀ a ∈ ow', a ∈ ow ∨ H a = none) → H' D = some (.tup [.int p, .int (g.f + (-x)), .int (g.h + (-y))]) → Q (.ref D) H')
theorem OT (T : Tx K mg) : Af P w K mg base (CXE P w) 3 T.Kt T.Ig ["self", "place", "foot_by", "head_by"] (OV T) := by
 refine T.F4.F.okX OH (fun _ _ _ _ h => by walk_at "LN") ?_
 ·walk_at "I2"
  obtain ⟨b, S, P, ow, gs, past, p, x, y, rfl, hb, kE, k⟩ := h
  refine ⟨_, (AE (AK (BR (pv 0) T.AU T.CV.mt (Iq T) (hr.mono (by decide)) T.CV.b .nil EW (AA (pv 1) (AA (Ci Bp (pv 2)) (AA (Ci Bp (pv 3)) AC)))))), ?_⟩
  obtain ⟨dx, eb⟩ := hb.at_
  walk_at "RD"
  exact ⟨dx, _, eb, rfl, b, S, P, ow, gs, past, p, -x, -y, rfl, hb, kE, k⟩
theorem JT : AR ["self", "many", "left"] ["self", "many"] (AG Fs) := by walk_at "SC"
noncomputable def JI {K : W.Frag} {mg : Str → Option Value} (T : Tx K mg) : Sp := fun vs H Q E => ∃ (b S P : Addr) (ow : List Addr) (gs : List G) (past : List (List G)) (n : Int), vs = [.ref b, .int n] ∧ Bch T.AQ H b S P ow gs past ∧ (∀ e, JO past n = some e → E (T.err e) none H) ∧ (JO past n = none → ∀ H' S' P' ow', Kp b b H H' → Bch T.AQ H' b S' P' ow' (past.getD (past.length - n.toNat) []) (past.take (past.length - n.toNat)) → (∀ a ∈ ow', a ∈ ow ∨ H a = none) → Q (.int ((past.take (past.length - n.toNat)).length : Int)) H')
theorem IV (T : Tx K mg) : Af P w K mg base (CXE P w) 1 T.Jw T.JV ["self", "many"] (JI T) := by
 refine T.CA.F.okX JT (fun _ _ _ _ h => by walk_at "LN") ?_
 ·walk_at "I2"
  obtain ⟨b, S, P, ow, gs, past, n, rfl, hb, kE, k⟩ := h
  refine ⟨_, (AD (AY (ptc Ee (pv 1) AB) (AE (BG EF rfl T.JF (by rfl) T.Ef (AA AV AC)))
    AO)
   (AD (AY (ptc DI (pv 1) (AH AJ (by rfl) T.Am Ac (AA (Br (pv 0) rfl) AC))) (AE (BG EF rfl T.ON (by rfl) T.I0 (AA AV AC)))
    AO)
   (AD (pst 2 JT (AF Aa (AH AJ (by rfl) T.Am Ac (AA (Br (pv 0) rfl) AC)) (pv 1)))
   (AD (N1 (pv 0) (pxi AM (Br (pv 0) rfl) (pv 2)) rfl)
   (AD (N1 (pv 0) (FC FL (Br (pv 0) rfl) Hy (IB (pv 2))) rfl)
   (AE (AK (pv 2)))))))), ?_⟩
  obtain ⟨dx, eb⟩ := hb.at_
  obtain ⟨ps, ep, pr, hps⟩ := hb.pa
  have lp := Paired.length pr
  have lm : (ps.map V.ref).length = past.length := by rw [z5, lp]
  unfold JO at kE k
  walk_at "Q"
  walk_at "RD"
  by_cases h1 : n < 1
  ·rw [if_pos (z8 h1)]
   rw [if_pos h1] at kE
   exact ⟨by decide, kE _ rfl⟩
  rw [if_neg (fun z => h1 (z6 z))]
  rw [if_neg h1] at kE k
  walk_at "NX"
  walk_at "Q"
  walk_at "RD"
  refine ⟨_, dx, _, eb, T.AU, T.A9, _, rfl, _, rfl, _, .inl (SqL.of ep), ?_⟩
  rw [lm]
  by_cases h2 : (past.length : Int) < n
  ·rw [if_pos (z8 h2)]
   rw [if_pos h2] at kE
   exact ⟨by decide, kE _ rfl⟩
  rw [if_neg (fun z => h2 (z6 z))]
  rw [if_neg h2] at k
  walk_at "NX"
  walk_at "Q"
  walk_at "RD"
  refine ⟨_, dx, _, eb, T.AU, T.A9, _, rfl, _, rfl, _, .inl (SqL.of ep), ?_⟩
  rw [lm]
  walk_at "NX"
  walk_at "RD"
  obtain ⟨j, hj⟩ : ∃ j : Nat, (past.length : Int) - n = j := ⟨((past.length : Int) - n).toNat, by lia⟩
  have ej : past.length - n.toNat = j := by lia
  rw [ej] at k
  have hjl : j < past.length := by lia
  obtain ⟨S', hS', gS'⟩ := Paired.get pr (z4 hjl)
  have hSm : S' ∈ ps := zU hS'
  have hSo := hps S' hSm
  obtain ⟨xs', eS'⟩ := hb.lv S' hSo.1
  have Sb : S' ≠ b := hb.neb eS' fun _ _ _ z => by cases z
  have bP : b ≠ P := BQ eb ep (by simp)
  have hix : atI (ps.map V.ref) ((past.length : Int) - n) = some (V.ref S') := by rw [hj]; exact Bx hS'
  refine ⟨_, dx, _, eb, T.AU, T.A9, _, rfl, _, rfl, _, SqL.of ep, _, hix, _, dx, _, eb, T.AU, T.Ab, (by show 2 < 1000; decide), ?_⟩
  refine ⟨_, dx, _, AN, T.AU, T.A9, _, rfl, _, rfl, _, SqL.of ((AL bP.symm).trans ep), ?_⟩
  intro P2 H2 n2 s2 e2
  have hcut : Oh (ps.map V.ref) none (some ((past.length : Int) - n)) = (ps.take j).map V.ref := by
   rw [hj]
   exact (F5).trans (List.map_take).symm
  rw [hcut] at e2
  have nP2 : H P2 = none := by
   have h1 : P2 ≠ b := fun z => by rw [z, AN] at n2; cases n2
   rwa [AL h1] at n2
  have P2b : P2 ≠ b := (Ah eb nP2).symm
  have hv : (past.length : Int) - n = ((past.take j).length : Int) := by rw [zh]; lia
  rw [hv]
  have kp2 : ∀ a u, a ≠ b → H a = some u → H2 a = some u := fun a u ha e => s2.get ((AL ha).trans e)
  have kp : Kp b b H (upd H2 b (.ins T.AQ dx [("standing", .ref S'), ("past", .ref P2)])) := fun a u ha _ e => (AL ha).trans (kp2 a u ha e)
  have kt : ∀ a xs, H a = some (.tup xs) → upd H2 b (.ins T.AQ dx [("standing", .ref S'), ("past", .ref P2)]) a = some (.tup xs) := fun a xs e => kp a _ (hb.neb e fun _ _ _ z => by cases z) (hb.neb e fun _ _ _ z => by cases z) e
  have kl : ∀ a ∈ ow, ∀ u, H a = some u → upd H2 b (.ins T.AQ dx [("standing", .ref S'), ("past", .ref P2)]) a = some u := fun a ha u e => by
   obtain ⟨_, ea⟩ := hb.lv a ha
   have hab := hb.neb ea fun _ _ _ z => by cases z
   exact kp a u hab hab e
  refine ⟨_, dx, _, s2.get AN, T.AU, T.A9, (by show 2 < 1000; decide), k rfl _ S' P2 (P2 :: ow) kp ?_ fun a ha => ?_⟩
  ·have eg : past.getD j [] = past[j] := by rw [zI, z4 hjl]; rfl
   rw [eg]
   refine ⟨⟨dx, AN⟩, gS'.keep (kl S' hSo.1) kt, ⟨ps.take j, (AL P2b).trans e2, ?_, fun a ha => ⟨zD _ (hps a (zm ha)).1, fun z => (by rw [z] at ha; exact hb.off nP2 (hps P2 (zm ha)).1)⟩⟩, fun z => (by rw [z, nP2] at eS'; cases eS'), zD _ hSo.1, zR, hb.stds _ (zV hjl), fun x hx => hb.stds x (zm hx), by rw [zh]; have := hb.len; lia, fun a ha => ?_⟩
   ·exact Paired.keepM (Paired.takeP pr j) fun x y hx q => q.keep (kl x (hps x (zm hx)).1) kt
   ·rcases zL.mp ha with z | z
    ·rw [z]; exact ⟨_, (AL P2b).trans e2⟩
    ·obtain ⟨xs, ea⟩ := hb.lv a z
     exact ⟨xs, kl a z _ ea⟩
  ·rcases zL.mp ha with z | z
   ·rw [z]; exact .inr nP2
   ·exact .inl z
theorem My : AR ["self"] ["self"] (AG Ew) := by walk_at "SC"
noncomputable def Nm {K : W.Frag} {mg : Str → Option Value} (T : Tx K mg) : Sp := fun vs H Q E => ∃ (b S P : Addr) (ow : List Addr) (gs : List G) (past : List (List G)), vs = [.ref b] ∧ Bch T.AQ H b S P ow gs past ∧ ∀ H' D as, H D = none → AI H H' → H' D = some (.lst (as.map V.ref)) → Ak H' as gs → Q (.ref D) H'
theorem NQ (T : Tx K mg) : Af P w K mg base CX0 1 T.Ii T.HI ["self"] (Nm T) := by
 refine T.E2.F.ok My (fun _ _ _ _ h => by walk_at "LN") ?_
 ·walk_at "I2"
  obtain ⟨b, S, P, ow, gs, past, rfl, hb, k⟩ := h
  refine ⟨_, (AE (AK (CO GC (by rfl) T.F1 Df (AA (Br (pv 0) rfl) AC)))), ?_⟩
  obtain ⟨dx, eb⟩ := hb.at_
  obtain ⟨as, es, ga⟩ := hb.st
  walk_at "RD"
  refine ⟨_, dx, _, eb, T.AU, T.Ab, _, rfl, ?_⟩
  refine ⟨_, rfl, _, .inl (SqL.of es), fun l H' n s e => ?_⟩
  exact k H' l as n s e (ga.same s)
theorem NO : AR ["self"] ["self"] (AG Et) := by walk_at "SC"
noncomputable def M4 {K : W.Frag} {mg : Str → Option Value} (T : Tx K mg) : Sp := fun vs H Q E => ∃ (b S P : Addr) (ow : List Addr) (gs : List G) (past : List (List G)), vs = [.ref b] ∧ Bch T.AQ H b S P ow gs past ∧ Q (.int past.length) H
theorem VM (T : Tx K mg) : Af P w K mg base CX0 1 T.Im T.Hl ["self"] (M4 T) := by
 refine T.OB.F.ok NO (fun _ _ _ _ h => by walk_at "LN") ?_
 ·walk_at "I2"
  obtain ⟨b, S, P, ow, gs, past, rfl, hb, k⟩ := h
  refine ⟨_, (AE (AK (AH AJ (by rfl) T.Am Ac (AA (Br (pv 0) rfl) AC)))), ?_⟩
  obtain ⟨dx, eb⟩ := hb.at_
  obtain ⟨ps, ep, pr, _⟩ := hb.pa
  have lp := Paired.length pr
  walk_at "RD"
  refine ⟨_, dx, _, eb, T.AU, T.A9, _, rfl, ?_⟩
  refine ⟨_, rfl, _, .inl (SqL.of ep), ?_⟩
  rw [z5, lp]
  exact k
theorem Kn : AR ["self", "places"] ["self", "places"] (AG C0) := by walk_at "SC"
noncomputable def J1 {K : W.Frag} {mg : Str → Option Value} (T : Tx K mg) : Sp := fun vs H Q E => ∃ (b S P : Addr) (ow : List Addr) (gs : List G) (past : List (List G)) (l : Addr) (ps : List Int), vs = [.ref b, .ref l] ∧ Bch T.AQ H b S P ow gs past ∧ SqL K H l (ps.map V.int) ∧ ps.length < 4000 ∧ (EM ps → ∀ H', AI H H' → E (T.err .badlist) none H') ∧ (¬ EM ps → ∀ p ∈ ps, p ∈ AT gs) ∧ (¬ EM ps → ∀ D H' as, H D = none → AI H H' → H' D = some (.lst (as.map V.ref)) → Ak H' as (Cb gs ps) → Q (.ref D) H')
theorem Ea (T : Tx K mg) : Af P w K mg base (CXE P w) 2 T.FE T.ER ["self", "places"] (J1 T) := by
 refine T.BZ.F.okX Kn (fun _ _ _ _ h => by walk_at "LN") ?_
 ·walk_at "I2"
  obtain ⟨b, S, P, ow, gs, past, l, ps, rfl, hb, hl, h4, kE, hst, k⟩ := h
  refine ⟨_, (AD (Av (pcl T.Hb (MK T) hr EW (AA (pv 1) AC)))
   (AE (AK (F6 rfl (⟨rfl, by decide +kernel, by decide +kernel, by decide +kernel, rfl, by decide +kernel, by with_unfolding_all rfl, by rfl, by rfl, by rfl⟩ : BF _ _ "place" ["self"] [0]) (B4 (pv 1)) (fun _ _ _ _  => (BR (pv 1) T.AU T.A6.mt (Cj T) (hr.mono (by decide)) T.A6.b .nil Ll (AA (pv 0) AC))) (fun _ _ _ _ => Fj))))), ?_⟩
  delta KJ
  refine ⟨l, ps, rfl, hl, h4, kE, fun hg H1 s1 => ⟨⟨_, s1.seq hl⟩, fun D nD => ?_⟩⟩
  have hs := hst hg
  have hb1 := hb.same s1
  have ll : ps.length ≤ 40 := Nat.le_of_not_lt fun z => hg (.inr (.inl z))
  refine Ws (gs := Cb gs ps) (by rw [Bh hs]; exact s1.seq hl) nD (by rw [Fg hs]; lia) (fun g H2 R hg s2 hR => ?_) fun H2 as s2 e2 ga => k ‹_› D H2 as (s1.free nD) (s1.trans s2) e2 ga
  have hb2 := hb1.same s2
  obtain ⟨dx, eb⟩ := hb2.at_
  delta qA
  refine ⟨dx, _, eb, rfl, b, S, P, ow, gs, past, g.p, rfl, hb2, fun hn => absurd (zf.mpr ⟨g, FB hg, rfl⟩) hn, fun D' g' hg' eD' => ?_⟩
  rw [Vw hb.std.asc hg] at hg'
  cases hg'
  exact hR D' eD'
theorem Cd : AR ["self", "places", "gates"] ["self", "places"] (AG Bv) := by walk_at "SC"
noncomputable def Gr {K : W.Frag} {mg : Str → Option Value} (T : Tx K mg) : Sp := fun vs H Q E => ∃ (b S P : Addr) (ow : List Addr) (gs : List G) (past : List (List G)) (l : Addr) (ps : List Int), vs = [.ref b, .ref l] ∧ Bch T.AQ H b S P ow gs past ∧ SqL K H l (ps.map V.int) ∧ ps.length < 4000 ∧ (EM ps → ∀ H', AI H H' → E (T.err .badlist) none H') ∧ (¬ EM ps → ∀ p ∈ ps, p ∈ AT gs) ∧ (¬ EM ps → ps.length < 2 → ∀ H', AI H H' → E (T.err .few) none H') ∧ (¬ EM ps → 2 ≤ ps.length → ∀ D H' as, H D = none → AI H H' → H' D = some (.lst (as.map V.ref)) → Ak H' as (Cb gs ps) → Q (.ref D) H')
theorem Cc (T : Tx K mg) : Af P w K mg base (CXE P w) 3 T.DF T.Ce ["self", "places"] (Gr T) := by
 refine T.A4.F.okX Cd (fun _ _ _ _ h => by walk_at "LN") ?_
 ·walk_at "I2"
  obtain ⟨b, S, P, ow, gs, past, l, ps, rfl, hb, hl, h4, kE, hst, kF, k⟩ := h
  refine ⟨_, (AD (pst 2 Cd (BR (pv 0) T.AU T.BZ.mt (Ea T) (hr.mono (by decide)) T.BZ.b .nil EW (AA (pv 1) AC)))
   (AD (AY (ptc Ee (AH AJ (by rfl) T.Am Ac (AA (pv 2) AC)) AB) (AE (BG EF rfl T.VT (by rfl) T.Uv (AA AV AC)))
    AO)
   (AE (AK (pv 2))))), ?_⟩
  obtain ⟨dx, eb⟩ := hb.at_
  walk_at "RD"
  refine ⟨dx, _, eb, rfl, b, S, P, ow, gs, past, l, ps, rfl, hb, hl, h4, kE, hst, fun hg D H1 as n1 s1 e1 ga => ?_⟩
  first | refine ⟨_, .inl (SqL.of e1), ?_⟩ | refine ⟨_, rfl, _, .inl (SqL.of e1), ?_⟩
  have la := ga.len
  have lp := Fg (hst hg)
  rw [z5]
  by_cases h2 : ps.length < 2
  ·rw [if_pos (z8 (by lia))]
   exact ⟨by decide, kF hg h2 _ s1⟩
  ·rw [if_neg (fun z => h2 (by have := z6 z; lia))]
   exact k hg (by lia) D H1 as n1 s1 e1 ga
theorem Li : AR ["self", "places"] ["self", "places"] (AG DX) := by walk_at "SC"
noncomputable def Lm {K : W.Frag} {mg : Str → Option Value} (T : Tx K mg) : Sp := fun vs H Q E => ∃ (b S P : Addr) (ow : List Addr) (gs : List G) (past : List (List G)) (l : Addr) (ps : List Int), vs = [.ref b, .ref l] ∧ Bch T.AQ H b S P ow gs past ∧ SqL K H l (ps.map V.int) ∧ ps.length < 4000 ∧ (EM ps → ∀ H', AI H H' → E (T.err .badlist) none H') ∧ (¬ EM ps → ∀ p ∈ ps, p ∈ AT gs) ∧ (¬ EM ps → ∀ D H' sg x, AI H H' → sg.Perm (Cb gs ps) → Asc sg → Nf sg x → Enc H' x (.ref D) → Q (.ref D) H')
theorem Lq (T : Tx K mg) : Af P w K mg base (CXE P w) 9 T.GZ T.Fa ["self", "places"] (Lm T) := by
 refine T.DW.F.okX Li (fun _ _ _ _ h => by walk_at "LN") ?_
 ·walk_at "I2"
  obtain ⟨b, S, P, ow, gs, past, l, ps, rfl, hb, hl, h4, kE, hst, k⟩ := h
  refine ⟨_, (AE (AK (pcl T.GU (K8 T) hr AW (AA (BR (pv 0) T.AU T.BZ.mt (Ea T) (hr.mono (by decide)) T.BZ.b .nil EW (AA (pv 1) AC)) AC)))), ?_⟩
  obtain ⟨dx, eb⟩ := hb.at_
  walk_at "RD"
  refine ⟨dx, _, eb, rfl, b, S, P, ow, gs, past, l, ps, rfl, hb, hl, h4, kE, hst, fun hg D H1 as n1 s1 e1 ga => ?_⟩
  have hs := hst hg
  have lp := Fg hs
  exact ⟨D, as, Cb gs ps, rfl, SqL.of e1, ga, by show (AT _).Nodup; rw [Bh hs]; exact Classical.byContradiction fun z => hg (.inr (.inr z)), by rw [lp]; exact Nat.le_of_not_lt fun z => hg (.inr (.inl z)), fun z => hg (.inl (by rw [← Bh hs, z]; rfl)), fun g hg => hb.std.ok g (FB hg), fun D2 H2 sg x s2 pm ac an en => k hg D2 H2 sg x (s1.trans s2) pm ac an en⟩
theorem J4 : AR ["self", "places"] ["self", "places"] (AG Ct) := by walk_at "SC"
noncomputable def Jt {K : W.Frag} {mg : Str → Option Value} (T : Tx K mg) : Sp := fun vs H Q E => ∃ (b S P : Addr) (ow : List Addr) (gs : List G) (past : List (List G)) (l : Addr) (ps : List Int), vs = [.ref b, .ref l] ∧ Bch T.AQ H b S P ow gs past ∧ SqL K H l (ps.map V.int) ∧ ps.length < 4000 ∧ (EM ps → ∀ H', AI H H' → E (T.err .badlist) none H') ∧ (¬ EM ps → ∀ p ∈ ps, p ∈ AT gs) ∧ (¬ EM ps → ps.length < 2 → ∀ H', AI H H' → E (T.err .few) none H') ∧ (¬ EM ps → 2 ≤ ps.length → ∀ D H' sg x, AI H H' → sg.Perm (Cb gs ps) → Asc sg → Jc id sg sg x → Enc H' x (.ref D) → Q (.ref D) H')
theorem KF (T : Tx K mg) : Af P w K mg base (CXE P w) 8 T.FT T.EO ["self", "places"] (Jt T) := by
 refine T.C2.F.okX J4 (fun _ _ _ _ h => by walk_at "LN") ?_
 ·walk_at "I2"
  obtain ⟨b, S, P, ow, gs, past, l, ps, rfl, hb, hl, h4, kE, hst, kF, k⟩ := h
  refine ⟨_, (AE (AK (pcl T.Fe (Jx T) hr AW (AA (BR (pv 0) T.AU T.A4.mt (Cc T) (hr.mono (by decide)) T.A4.b .nil EW (AA (pv 1) AC)) AC)))), ?_⟩
  obtain ⟨dx, eb⟩ := hb.at_
  walk_at "RD"
  refine ⟨dx, _, eb, rfl, b, S, P, ow, gs, past, l, ps, rfl, hb, hl, h4, kE, hst, kF, fun hg h2 D H1 as n1 s1 e1 ga => ?_⟩
  have hs := hst hg
  have lp := Fg hs
  exact ⟨D, as, Cb gs ps, rfl, SqL.of e1, ga, by show (AT _).Nodup; rw [Bh hs]; exact Classical.byContradiction fun z => hg (.inr (.inr z)), by lia, by rw [lp]; exact Nat.le_of_not_lt fun z => hg (.inr (.inl z)), fun g hg => hb.std.ok g (FB hg), fun D2 H2 sg x s2 pm ac an en => k hg h2 D2 H2 sg x (s1.trans s2) pm ac an en⟩
theorem KG : AR ["self", "places"] ["self", "places"] (AG Cs) := by walk_at "SC"
noncomputable def KW {K : W.Frag} {mg : Str → Option Value} (T : Tx K mg) : Sp := fun vs H Q E => ∃ (b S P : Addr) (ow : List Addr) (gs : List G) (past : List (List G)) (l : Addr) (ps : List Int), vs = [.ref b, .ref l] ∧ Bch T.AQ H b S P ow gs past ∧ SqL K H l (ps.map V.int) ∧ ps.length < 4000 ∧ (EM ps → ∀ H', AI H H' → E (T.err .badlist) none H') ∧ (¬ EM ps → ∀ p ∈ ps, p ∈ AT gs) ∧ (¬ EM ps → ps.length < 2 → ∀ H', AI H H' → E (T.err .few) none H') ∧ (¬ EM ps → 2 ≤ ps.length → ∀ D H' sg x, AI H H' → sg.Perm (Cb gs ps) → Asc sg → Jc Mx sg (sg.map CD) x → Enc H' x (.ref D) → Q (.ref D) H')
theorem Ka (T : Tx K mg) : Af P w K mg base (CXE P w) 8 T.FQ T.Eb ["self", "places"] (KW T) := by
 refine T.Cq.F.okX KG (fun _ _ _ _ h => by walk_at "LN") ?_
 ·walk_at "I2"
  obtain ⟨b, S, P, ow, gs, past, l, ps, rfl, hb, hl, h4, kE, hst, kF, k⟩ := h
  refine ⟨_, (AE (AK (pcl T.FY (Ki T) hr AW (AA (BR (pv 0) T.AU T.A4.mt (Cc T) (hr.mono (by decide)) T.A4.b .nil EW (AA (pv 1) AC)) AC)))), ?_⟩
  obtain ⟨dx, eb⟩ := hb.at_
  walk_at "RD"
  refine ⟨dx, _, eb, rfl, b, S, P, ow, gs, past, l, ps, rfl, hb, hl, h4, kE, hst, kF, fun hg h2 D H1 as n1 s1 e1 ga => ?_⟩
  have hs := hst hg
  have lp := Fg hs
  exact ⟨D, as, Cb gs ps, rfl, SqL.of e1, ga, by show (AT _).Nodup; rw [Bh hs]; exact Classical.byContradiction fun z => hg (.inr (.inr z)), by lia, by rw [lp]; exact Nat.le_of_not_lt fun z => hg (.inr (.inl z)), fun g hg => hb.std.ok g (FB hg), fun D2 H2 sg x s2 pm ac an en => k hg h2 D2 H2 sg x (s1.trans s2) pm ac an en⟩
theorem OE : AR ["self"] ["self"] (AG GB) := by walk_at "SC"
noncomputable def Od {K : W.Frag} {mg : Str → Option Value} (T : Tx K mg) : Sp := fun vs H Q E => ∃ (b S P : Addr) (ow : List Addr) (gs : List G) (past : List (List G)), vs = [.ref b] ∧ Bch T.AQ H b S P ow gs past ∧ ∀ D H' as' rs, H D = none → AI H H' → QL H' D as' rs gs → Q8 rs → Q (.ref D) H'
theorem OS (T : Tx K mg) : Af P w K mg base CX0 9 T.KP T.JP ["self"] (Od T) := by
 refine T.Fl.F.ok OE (fun _ _ _ _ h => by walk_at "LN") ?_
 ·walk_at "I2"
  obtain ⟨b, S, P, ow, gs, past, rfl, hb, k⟩ := h
  refine ⟨_, (AE (AK (pcl T.Iy (NY T) hr AW (AA (Br (pv 0) rfl) AC)))), ?_⟩
  obtain ⟨dx, eb⟩ := hb.at_
  obtain ⟨as, es, ga⟩ := hb.st
  walk_at "RD"
  refine ⟨_, dx, _, eb, T.AU, T.Ab, _, rfl, ?_⟩
  exact ⟨S, as, gs, rfl, SqL.of es, ga, hb.std.nd, hb.std.len, hb.std.ok, k⟩
theorem OJ : AR ["self"] ["self"] (AG GJ) := by walk_at "SC"
noncomputable def OR {K : W.Frag} {mg : Str → Option Value} (T : Tx K mg) : Sp := fun vs H Q E => ∃ (b S P : Addr) (ow : List Addr) (gs : List G) (past : List (List G)), vs = [.ref b] ∧ Bch T.AQ H b S P ow gs past ∧ LM.Tbl H CG CZ Kx ∧ ((gs.length = 0 ∨ 12 < gs.length) → E (T.err .size) none H) ∧ (1 ≤ gs.length → gs.length ≤ 12 → ∀ D H' L q t sg, H L = none → A1 CG H H' → LM.Tbl H' CG CZ Kx → LJ H' D gs L q t sg → Uj sg t → Q (.ref D) H')
theorem Oc (T : Tx K mg) : Af P w K mg base (CXE P w) 10 T.Kv T.JQ ["self"] (OR T) := by
 refine T.GG.F.okX OJ (fun _ _ _ _ h => by walk_at "LN") ?_
 ·walk_at "I2"
  obtain ⟨b, S, P, ow, gs, past, rfl, hb, tb, kE, k⟩ := h
  refine ⟨_, (AD (AY (IT (ptc Au (AH AJ (by rfl) T.Am Ac (AA (Br (pv 0) rfl) AC)) AB) (Fy (ptc DI (AH AJ (by rfl) T.Am Ac (AA (Br (pv 0) rfl) AC)) (EZ (v := .int (12)) (by rfl) T.OD T.OK)))).pt (AE (BG EF rfl T.Qz (by rfl) T.Q3 (AA AV AC)))
    AO)
   (AE (AK (pcl T.K0 (OF T) hr AW (AA (Br (pv 0) rfl) AC))))), ?_⟩
  obtain ⟨dx, eb⟩ := hb.at_
  obtain ⟨as, es, ga⟩ := hb.st
  walk_at "RD"
  have la := ga.len
  refine ⟨_, dx, _, eb, T.AU, T.Ab, _, rfl, S, rfl, _, .inl (SqL.of es), ?_⟩
  rw [z5, la]
  by_cases h0 : gs.length = 0
  ·rw [if_pos (z8 (by lia))]
   exact ⟨by decide, kE (.inl h0)⟩
  ·rw [if_neg (fun z => h0 (by have := z6 z; lia))]
   refine ⟨_, dx, _, eb, T.AU, T.Ab, _, rfl, S, rfl, _, .inl (SqL.of es), ?_⟩
   rw [z5, la]
   by_cases h12 : 12 < gs.length
   ·rw [if_pos (z8 (by lia))]
    exact ⟨by decide, kE (.inr h12)⟩
   ·rw [if_neg (fun z => h12 (by have := z6 z; lia))]
    refine ⟨_, dx, _, eb, T.AU, T.Ab, _, rfl, ?_⟩
    exact ⟨S, as, gs, rfl, SqL.of es, ga, hb.std.nd, by lia, by lia, hb.std.ok, tb, k (by lia) (by lia)⟩
theorem MS : AR ["self", "throw"] ["self", "throw"] (AG D7) := by walk_at "SC"
noncomputable def MN {K : W.Frag} {mg : Str → Option Value} (T : Tx K mg) : Sp := fun vs H Q E => ∃ (b S P : Addr) (ow : List Addr) (gs : List G) (past : List (List G)) (q : Addr) (x y z v : Int), vs = [.ref b, .ref q] ∧ Bch T.AQ H b S P ow gs past ∧ H q = some (.tup [.int x, .int y, .int z, .int v]) ∧ (RD x y z v → E (T.err .badthrow) none H) ∧ (¬ RD x y z v → ∀ D H', H D = none → AI H H' → H' D = some (.lst ((AT (gs.filter (Jk x y z v))).map V.int)) → Q (.ref D) H')
theorem MI (T : Tx K mg) : Af P w K mg base (CXE P w) 6 T.Ht T.GQ ["self", "throw"] (MN T) := by
 refine T.Dz.F.okX MS (fun _ _ _ _ h => by walk_at "LN") ?_
 ·walk_at "I2"
  obtain ⟨b, S, P, ow, gs, past, q, x, y, z, v, rfl, hb, hq, kE, k⟩ := h
  refine ⟨_, (AD (Av (pcl T.Ia (NW T) hr EW (AA (pv 1) AC)))
   (AE (AK (pcl T.DK (FI T) hr AW (AA (pv 1) (AA (Br (pv 0) rfl) AC)))))), ?_⟩
  obtain ⟨dx, eb⟩ := hb.at_
  obtain ⟨as, es, ga⟩ := hb.st
  walk_at "RD"
  refine ⟨q, x, y, z, v, rfl, hq, kE, fun nb => ?_⟩
  refine ⟨_, dx, _, eb, T.AU, T.Ab, _, rfl, ?_⟩
  exact ⟨q, S, x, y, z, v, as, gs, rfl, hq, nb, SqL.of es, ga, hb.std.len, hb.std.ok, k nb⟩
theorem W1 : AR ["_law_script", "_law_k"] ["_law_script", "_law_k"] (AG Ry) := by walk_at "SC"
noncomputable def Hz (K : W.Frag) : Sp := fun vs H Q _ => ∃ (a : Addr) (k : Int) (ns : List Int), vs = [.ref a, .int k] ∧ 0 ≤ k ∧ SqL K H a (ns.map V.int) ∧ Q (.int (ns.getD k.toNat 0)) H
theorem IC (T : Tx K mg) : Af P w K mg base CX0 1 T.V4 T.TM ["_law_script", "_law_k"] (Hz K) := by
 refine T.Jr.F.ok W1 (fun _ _ _ _ h => by walk_at "LN") ?_
 ·walk_at "I2"
  obtain ⟨a, k, ns, rfl, h0, hS, hq⟩ := h
  refine ⟨_, (AD (AY (ptc Ee (pv 1) (AH AJ (by rfl) T.Am Ac (AA (pv 0) AC))) (AE (AK (pxi AM (pv 0) (pv 1))))
    AO)
   (AE (AK AB))), ?_⟩
  walk_at "RD"
  refine ⟨_, Or.inl hS, ?_⟩
  obtain ⟨k, rfl⟩ := Int.eq_ofNat_of_zero_le h0
  rw [z5]
  by_cases hk : k < ns.length
  ·rw [if_pos (by simpa using hk)]
   refine ⟨_, hS, _, Dp (v := V.int (ns.getD k 0)) ?_, hq⟩
   rw [zJ, z4 hk, zI, z4 hk]
   rfl
  ·rw [if_neg (by simpa using hk)]
   rw [Int.toNat_natCast, zI, List.getElem?_eq_none (by lia)] at hq
   exact hq
theorem B1 : AR ["_law_cell", "_law_many", "_law_mixed", "_law_row", "_law_left", "_law_once", "_law_k"] ["_law_cell", "_law_many", "_law_mixed"] (AG JY) := by walk_at "SC"
noncomputable def DE : Sp := fun vs H Q _ => ∃ (c m : Int) (b : Bool), vs = [.int c, .int m, .bl b] ∧ 0 ≤ m ∧ m ≤ 100 ∧ ∀ D H' (xs : List Int), H D = none → AI H H' → H' D = some (.lst (xs.map V.int)) → xs.length = m.toNat → Q (.ref D) H'
noncomputable def W_spr (c m : Int) (b : Bool) (D : Addr) (H : Hp) : Nat → St → Hp → Prop := fun i σ H' => ∃ (xs : List Int) (lf on : Int) (k : Option V), σ = [some (.int c), some (.int m), some (.bl b), some (.ref D), some (.int lf), some (.int on), k] ∧ AI H H' ∧ H' D = some (.lst (xs.map V.int)) ∧ xs.length = i ∧ 0 ≤ on ∧ on < 2147483647
theorem DD (T : Tx K mg) : Af P w K mg base CX0 1 T.NB T.MF ["_law_cell", "_law_many", "_law_mixed"] DE := by
 refine T.Ck.F.ok B1 (fun _ _ _ _ h => by walk_at "LN") ?_
 ·walk_at "I2"
  obtain ⟨c, m, b, rfl, h0, h1, k⟩ := h
  refine ⟨_, (AD (pst 3 B1 (Ae AC))
   (AD (pst 4 B1 (pv 0))
   (AD (pst 5 B1 (AF AX (pv 0) AB))
   (AD (BO PassesOwn.never rfl (Bo (by rfl) T.B8 (AA (pv 1) AC)) (pgn 6 B1)
    (AD (pst 5 B1 (AF AX (AF Ag (AF Ag (AF Jq (pv 5) AB) AB) (pv 6)) AB))
     (AE (AY (Bb (pv 2)) (AE (Av (BJ (pv 3) (AF AX (AF AX (AF Ag (AF Jq (pv 5) AB) (pv 6)) AB) AB))))
      (AD (Av (BJ (pv 3) (AF AX (pv 4) AB)))
       (AE (pst 4 B1 (AF BM (pv 4) AB))))))))
   (AE (AK (pv 3))))))), ?_⟩
  walk_at "RD"
  walk_at "AUTO"
  refine ⟨_, rfl, m, rfl, by lia, by lia, BK (n := m.toNat) (W_spr c m b p H) ⟨[], _, _, none, rfl, hs, he, rfl, by lia, by lia⟩ ?_ ?_⟩
  ·rintro i σ H1 hi ⟨xs, lf, on, k', rfl, s1, e1, hl, o1, o2⟩
   have hz : (xs.map V.int).length < sizeLine := by rw [z5, PySem.sizeLine_eq]; lia
   walk_at "RD"
   walk_at "AUTO"
   cases b
   ·rw [if_neg (by decide)]
    refine ⟨⟨_, e1⟩, _, e1, hz, ?_⟩
    walk_at "AUTO"
    refine ⟨xs ++ [lf % 4004001], _, _, _, rfl, s1.updFresh hn, ?_, by rw [zC, hl]; rfl, by lia, by lia⟩
    rw [AN, zW]; rfl
   ·rw [if_pos rfl]
    refine ⟨⟨_, e1⟩, _, e1, hz, ?_⟩
    walk_at "AUTO"
    refine ⟨xs ++ [((on * 48271 + 11 + (0 + (i : Int))) % 2147483647 * 69621 + (0 + (i : Int))) % 2147483647 % 4004001], _, _, _, rfl, s1.updFresh hn, ?_, by rw [zC, hl]; rfl, by lia, by lia⟩
    rw [AN, zW]; rfl
  ·rintro σ H1 ⟨xs, lf, on, k', rfl, s1, e1, hl, o1, o2⟩
   walk_at "RD"
   exact k _ _ xs hn s1 e1 hl
theorem Fp : AR ["_law_kind", "_law_line", "_law_wide", "_law_low", "_law_high", "_law_under", "_law_over"] ["_law_kind", "_law_line", "_law_wide", "_law_low", "_law_high"] (AG Hk) := by walk_at "SC"
noncomputable def J7 : Sp := fun vs H Q _ => ∃ kd ln wd lo hi : Int, vs = [.int kd, .int ln, .int wd, .int lo, .int hi] ∧ 0 < wd ∧ wd < 10000 ∧ ∀ D H' f h, AI H H' → H' D = some (.tup [.int f, .int h]) → Q (.ref D) H'
theorem QN (T : Tx K mg) : Af P w K mg base CX0 1 T.L9 T.Ju ["_law_kind", "_law_line", "_law_wide", "_law_low", "_law_high"] J7 := by
 refine T.L5.F.ok Fp (fun _ _ _ _ h => by walk_at "LN") ?_
 ·walk_at "I2"
  obtain ⟨kd, ln, wd, lo, hi, rfl, h0, h1, k⟩ := h
  refine ⟨_, (AD (pst 5 Fp (AF BM (pv 1) (pv 2)))
   (AD (pst 6 Fp (Ci Bp (AF BM (Ci Bp (pv 1)) (pv 2))))
   (AD (AY (ptc Au (pv 0) AB) (AE (AK (AZ (AA (AF Aa (AF AX (pv 3) AB) AB) (AA (AF Ag (AF Aa (AF AX (pv 3) AB) AB) (AF AX (pv 4) AB)) AC)))))
    AO)
   (AD (AY (ptc Au (pv 0) AB) (AE (AK (AZ (AA (AF Aa (AF AX (pv 3) AB) AB) (AA (AF Ag (AF Aa (AF AX (pv 3) AB) AB) (AF AX (pv 4) AB)) AC)))))
    AO)
   (AD (AY (E4 (ptc Au (pv 0) AB) (C8 (ptc Au (AF AX (pv 3) AB) AB))).pt (AE (AK (AZ (AA (pv 6) (AA (AF Ag (pv 6) (AF AX (pv 4) AB)) AC)))))
    AO)
   (AD (AY (ptc Au (pv 0) AB) (AE (AK (AZ (AA (AF Aa (pv 5) (AF AX (pv 4) AB)) (AA (pv 5) AC)))))
    AO)
   (AE (AK (AZ (AA (AF Aa (pv 5) (AF AX (pv 3) AB)) (AA (AF Ag (pv 6) (AF AX (pv 4) AB)) AC))))))))))), ?_⟩
  walk_at "Q"
  walk_at "RD"
  walk_at "AUTO"
  walk_at "NX"
  walk_at "Q"
  walk_at "RD"
  walk_at "AUTO"
  walk_at "NX"
  walk_at "RD"
  walk_at "AUTO"
  repeat' (first | split | exact k _ _ _ _ (by assumption) (by assumption) | walk_at "STEP")
theorem Aj : AR ["_law_script", "_law_at_here", "_law_many", "_law_cell", "_law_kind", "_law_places", "_law_lows", "_law_highs", "_law_span", "_law_near", "_law_ends", "_law_made", "_law_used", "_law_k", "_law_place", "_law_step_here", "_law_line", "_law_foot", "_law_head"] ["_law_script", "_law_at_here", "_law_many"] (AG Lo) := by walk_at "SC"
noncomputable def Sh (K : W.Frag) : Sp := fun vs H Q _ => ∃ (a : Addr) (at' many : Int) (ns : List Int), vs = [.ref a, .int at', .int many] ∧ SqL K H a (ns.map V.int) ∧ 0 ≤ at' ∧ at' ≤ 63 ∧ 0 ≤ many ∧ many ≤ 41 ∧ ∀ D H' as gs, H D = none → AI H H' → H' D = some (.lst (as.map V.ref)) → Ak H' as gs → gs.length = many.toNat → (∀ g ∈ gs, OkG g) → (gs.map G.p).Nodup → Q (.ref D) H'
noncomputable def Cf (fr : St) (H : Hp) : St → Hp → Prop := fun σ H' => ∃ f h : Int, σ = fr ++ [some (.int f), some (.int h)] ∧ H' = H
structure Gb (many span near e0 e1 : Int) : Prop where
 s0 : 2 ≤ span
 s1 : span ≤ 2001
 s2 : many ≤ span
 n0 : -1000 ≤ near
 n1 : near + span ≤ 1001
 b0 : e0.natAbs ≤ 1000
 b1 : e1.natAbs ≤ 10000
structure Gl (H' : Hp) (P L R E : Addr) (ps ls rs : List Int) (e0 e1 : Int) : Prop where
 eP : H' P = some (.lst (ps.map V.int))
 eL : H' L = some (.lst (ls.map V.int))
 eR : H' R = some (.lst (rs.map V.int))
 eE : H' E = some (.lst [.int e0, .int e1])
theorem Gl.same {H H' : Hp} {P L R E : Addr} {ps ls rs : List Int} {e0 e1 : Int} (g : Gl H P L R E ps ls rs e0 e1) (s : AI H H') : Gl H' P L R E ps ls rs e0 e1 := ⟨s.get g.eP, s.get g.eL, s.get g.eR, s.get g.eE⟩
noncomputable def Cg (a P L R : Addr) (at' many cl : Int) (ps ls rs : List Int) (H : Hp) : St → Hp → Prop := fun σ H' => ∃ (E : Addr) (span near e0 e1 : Int), σ = [some (.ref a), some (.int at'), some (.int many), some (.int cl), some (.int (cl / 2 % 5)), some (.ref P), some (.ref L), some (.ref R), some (.int span), some (.int near), some (.ref E), none, none, none, none, none, none, none, none] ∧ AI H H' ∧ Gl H' P L R E ps ls rs e0 e1 ∧ Gb many span near e0 e1
structure Gm (H' : Hp) (M U : Addr) (as : List Addr) (gs : List G) (kvs : List (Key × V)) (near span : Int) (i : Nat) : Prop where
 eM : H' M = some (.lst (as.map V.ref))
 at_ : Ak H' as gs
 eU : H' U = some (.dK kvs)
 len : gs.length = i
 kl : kvs.length ≤ i
 keys : ∀ z : Int, (B7 kvs (Sum.inl z : Key)).isSome = true ↔ z ∈ gs.map G.p
 ok : ∀ g ∈ gs, OkG g
 nd : (gs.map G.p).Nodup
 stretch : ∀ g ∈ gs, near ≤ g.p ∧ g.p < near + span
noncomputable def Wg (a P L R E M U : Addr) (at' many cl span near : Int) (H : Hp) : Nat → St → Hp → Prop := fun i σ H' => ∃ (as : List Addr) (gs : List G) (kvs : List (Key × V)) (x1 x2 x3 x4 x5 x6 : Option V), σ = [some (.ref a), some (.int at'), some (.int many), some (.int cl), some (.int (cl / 2 % 5)), some (.ref P), some (.ref L), some (.ref R), some (.int span), some (.int near), some (.ref E), some (.ref M), some (.ref U), x1, x2, x3, x4, x5, x6] ∧ AI H H' ∧ Gm H' M U as gs kvs near span i
noncomputable def Wi (a P L R E M U : Addr) (at' many cl span near : Int) (gs : List G) (kk p0 : Int) (x4 x5 x6 : Option V) (H : Hp) : Nat → St → Hp → Prop := fun j σ H' => ∃ (pl : Int) (x3 : Option V), σ = [some (.ref a), some (.int at'), some (.int many), some (.int cl), some (.int (cl / 2 % 5)), some (.ref P), some (.ref L), some (.ref R), some (.int span), some (.int near), some (.ref E), some (.ref M), some (.ref U), some (.int kk), some (.int pl), x3, x4, x5, x6] ∧ H' = H ∧ near ≤ pl ∧ pl < near + span ∧
 (pl ∉ gs.map G.p ∨ (pl = near + (p0 - near + j) % span ∧ ∀ t : Nat, t < j → near + (p0 - near + t) % span ∈ gs.map G.p))
theorem Rw (T : Tx K mg) : Af P w K mg base CX0 2 T.O0 T.Mo ["_law_script", "_law_at_here", "_law_many"] (Sh K) := by
 refine T.O3.F.ok Aj (fun _ _ _ _ h => by walk_at "LN") ?_
 ·walk_at "I2"
  obtain ⟨a, at', many, ns, rfl, hS, a0, a1, m0, m1, k⟩ := h
  refine ⟨_, (AD (pst 3 Aj (pcl T.Jr (IC T) hr AW (AA (pv 0) (AA (pv 1) AC))))
   (AD (pst 4 Aj (AF AX (AF BM (pv 3) AB) AB))
   (AD (pst 5 Aj (pcl T.Ck (DD T) hr AW (AA (pcl T.Jr (IC T) hr AW (AA (pv 0) (AA (AF Ag (pv 1) AB) AC))) (AA (AF Ag (pv 2) AB) (AA (pec Au (AF AX (pv 3) AB) AB) AC)))))
   (AD (pst 6 Aj (pcl T.Ck (DD T) hr AW (AA (pcl T.Jr (IC T) hr AW (AA (pv 0) (AA (AF Ag (pv 1) AB) AC))) (AA (AF Ag (pv 2) AB) (AA (pec Au (AF AX (pv 3) AB) AB) AC)))))
   (AD (pst 7 Aj (pcl T.Ck (DD T) hr AW (AA (pcl T.Jr (IC T) hr AW (AA (pv 0) (AA (AF Ag (pv 1) AB) AC))) (AA (AF Ag (pv 2) AB) (AA (pec Au (AF AX (pv 3) AB) AB) AC)))))
   (AD (pst 8 Aj (AH (LW (by rfl)) (by rfl) T.QZ Ps (AA AB (AA (pxi AM (Ae (AA (AF Ag (pv 2) (AF AX (pxi AM (pv 5) (pv 2)) AB)) (AA AB AC))) (AF AX (AF BM (pv 3) AB) AB)) AC))))
   (AD (pst 9 Aj (AF Aa (AF AX (pxi AM (pv 5) (AF Ag (pv 2) AB)) (AF Aa AB (pv 8))) AB))
   (AD (pst 10 Aj (Ae (AA (AF Aa (AF AX (pxi AM (pv 6) (pv 2)) AB) AB) (AA (AF Aa (AF AX (pxi AM (pv 7) (pv 2)) AB) AB) AC))))
   (BB (AY (ptc Au (pv 4) AB) (AE (Gy (AF Ag (pxi AM (pv 10) AB) (AF Jq (AF Aa (AF AX (pxi AM (pv 10) AB) AB) AB) (AF Aa (pv 8) AB))) (Zf (pv 10) AB Uo)))
    AO)
   (AD (pst 11 Aj (Ae AC))
   (AD (pst 12 Aj RF)
   (AD (BO PassesOwn.never rfl (Bo (by rfl) T.B8 (AA (pv 2) AC)) (pgn 13 Aj)
    (AD (pst 14 Aj (AF Ag (pv 9) (AF AX (pxi AM (pv 5) (pv 13)) (pv 8))))
     (AD (BO PassesOwn.never rfl (Bo (by rfl) T.B8 (AA (pv 13) AC)) (pgn 15 Aj)
      (AE (AY (SL (Vk hu (pv 14) (pv 12))) (AE (pst 14 Aj (AF Ag (pv 9) (AF AX (AF Ag (AF Aa (pv 14) (pv 9)) AB) (pv 8)))))
        AO)))
     (AD (TB hu (pv 12) (pv 14) BP rfl)
     (AD (pst 16 Aj (AF Ag (AF Jq (pxi AM (pv 10) AB) (AF Aa (pv 8) AB)) (AF Jq (AF Aa (pxi AM (pv 10) AB) (pxi AM (pv 10) AB)) (AF Aa (pv 14) (pv 9)))))
     (AD (Gy (pcl T.L5 (QN T) hr AW (AA (pv 4) (AA (pv 16) (AA (AF Aa (pv 8) AB) (AA (pxi AM (pv 6) (pv 13)) (AA (pxi AM (pv 7) (pv 13)) AC)))))) (Fx (n := 2) rfl (Ai (pgn 17 Aj) (Ai (pgn 18 Aj) C4))))
     (BB (AY (E4 (ptc Au (pv 4) AB) (C8 (ptc Au (pv 13) (AF AX (pxi AM (pv 6) (AF Ag (pv 2) AB)) (pv 2))))).pt (AD (pst 17 Aj (AF Aa (AF Ag (pv 17) (AF AX (pxi AM (pv 7) (AF Ag (pv 2) AB)) AB)) AB))
       (AE (pst 18 Aj (AF Aa (AF Ag (pv 18) (AF AX (pxi AM (pv 7) (AF Ag (pv 2) AB)) AB)) AB))))
      AO)
     (AD (pst 17 Aj (AH (LW (by rfl)) (by rfl) T.QZ Ps (AA (Ci Bp AB) (AA (AH (Ox (by rfl)) (by rfl) T.XJ Ut (AA AB (AA (pv 17) AC))) AC))))
     (AE (Av (BJ (pv 11) (AZ (AA (pv 14) (AA (pv 17) (AA (AH (LW (by rfl)) (by rfl) T.QZ Ps (AA (pv 17) (AA (AH (Ox (by rfl)) (by rfl) T.XJ Ut (AA AB (AA (pv 18) AC))) AC))) AC)))))))))))))))
   (AE (AK (pv 11))))))))))))))), ?_⟩
  walk_at "Q"
  delta Hz
  walk_at "AUTO"
  walk_at "NX"
  walk_at "Q"
  walk_at "RD"
  walk_at "NX"
  walk_at "Q"
  delta Hz DE
  walk_at "AUTO"
  intro P H1 ps nP s1 eP lP
  walk_at "NX"
  walk_at "Q"
  delta Hz DE
  walk_at "AUTO"
  intro L H2 ls nL s2 eL lL
  walk_at "NX"
  walk_at "Q"
  delta Hz DE
  walk_at "AUTO"
  intro R H3 rs nR s3 eR lR
  walk_at "NX"
  walk_at "Q"
  walk_at "RD"
  walk_at "AUTO"
  obtain ⟨sp, hsp, hsp2⟩ := atL2 (x := many + ps.getD many.toNat 0 % 9) (y := 2001) (e := ns.getD at'.toNat 0 / 10 % 2) (by lia) (by lia)
  walk_at "AUTO"
  have hspB : 2 ≤ (if sp > 2 then sp else 2) ∧ (if sp > 2 then sp else 2) ≤ 2001 ∧ many ≤ (if sp > 2 then sp else 2) := by split <;> lia
  generalize (if sp > 2 then sp else 2) = span at hspB ⊢
  obtain ⟨hb1, hb2, hb3⟩ := hspB
  walk_at "NX"
  walk_at "Q"
  walk_at "RD"
  walk_at "AUTO"
  walk_at "NX"
  have hnear := Int.emod_nonneg (ps.getD (many + 1).toNat 0) (show (2002 - span) ≠ 0 by lia)
  have hnear2 := Int.emod_lt_of_pos (ps.getD (many + 1).toNat 0) (show 0 < 2002 - span by lia)
  generalize ps.getD (many + 1).toNat 0 % (2002 - span) = nr at hnear hnear2 ⊢
  walk_at "Q"
  walk_at "RD"
  walk_at "AUTO"
  walk_at "NX"
  have hp0 : H p = none := AI.free (by walk_at "SAME8") hn
  refine ⟨Cg a P L R at' many (ns.getD at'.toNat 0) ps ls rs H, ?_, ?_⟩
  ·walk_at "RD"
   split
   ·walk_at "AUTO"
    have hq := CL (show ((rs.getD many.toNat 0 % 2001 - 1000) % 7 - 3).natAbs ≤ 3 by lia) (show (span - 1).natAbs ≤ 2000 by lia)
    refine ⟨p, span, _, _, _, rfl, AI.updFresh (by walk_at "SAME8") hp0, ⟨?_, ?_, ?_, AN⟩, ⟨hb1, hb2, hb3, by lia, by lia, by lia, ?_⟩⟩
    ·rw [AL (Ah (o := .lst (ps.map V.int)) (by walk_at "SAT8") hn)]; walk_at "SAT8"
    ·rw [AL (Ah (o := .lst (ls.map V.int)) (by walk_at "SAT8") hn)]; walk_at "SAT8"
    ·rw [AL (Ah (o := .lst (rs.map V.int)) (by walk_at "SAT8") hn)]; walk_at "SAT8"
    ·lia
   ·exact ⟨p, span, _, _, _, rfl, (by walk_at "SAME8"), ⟨by walk_at "SAT8", by walk_at "SAT8", by walk_at "SAT8", by walk_at "SAT8"⟩, ⟨hb1, hb2, hb3, by lia, by lia, by lia, by lia⟩⟩
  clear hnear hnear2 hp0 hsp hsp2 he hs hn p H' nr hb1 hb2 hb3 span sp
  rintro σ1 H5 ⟨E, span, near, e0, e1, rfl, s5, gl, gb⟩
  obtain ⟨hb1, hb2, hb3, hb4, hb5, hb6, hb7⟩ := id gb
  walk_at "Q"
  walk_at "RD"
  refine ⟨by decide, fun Ma H6 nM s6 eM => ?_⟩
  walk_at "NX"
  walk_at "Q"
  walk_at "RD"
  intro U H7 nU s7 eU
  walk_at "NX"
  have nU5 : H5 U = none := s6.free nU
  have n0M : H Ma = none := s5.free nM
  refine DH fun M0 hM0 => ?_
  walk_at "RD"
  refine ⟨_, rfl, many, rfl, by lia, by lia, BK (n := many.toNat) (Wg a P L R E Ma U at' many (ns.getD at'.toNat 0) span near H5) ⟨[], [], [], none, none, none, none, none, none, rfl, s6.trans s7, ⟨s7.get eM, .nil, eU, rfl, zG _, fun z => by simp [B7], fun _ h => absurd h (by simp), by simp, fun _ h => absurd h (by simp)⟩⟩ ?_ ?_⟩
  ·rintro i σ H8 hi ⟨as, gs, kvs, x1, x2, x3, x4, x5, x6, rfl, s8, gm⟩
   have gl8 := gl.same s8
   have eP8 := gl8.eP
   have eL8 := gl8.eL
   have eR8 := gl8.eR
   have eE8 := gl8.eE
   dsimp only [ET, List.set_cons_succ, List.set_cons_zero]
   walk_at "Q"
   walk_at "RD"
   walk_at "AUTO"
   walk_at "NX"
   generalize hp0 : near + ps.getD (0 + (i : Int)).toNat 0 % span = p0
   have q1 := Int.emod_nonneg (ps.getD (0 + (i : Int)).toNat 0) (show span ≠ 0 by lia)
   have q2 := Int.emod_lt_of_pos (ps.getD (0 + (i : Int)).toNat 0) (show 0 < span by lia)
   have hl1 : near ≤ p0 := by lia
   have hl2 : p0 < near + span := by lia
   walk_at "Q"
   walk_at "RD"
   refine ⟨_, rfl, 0 + (i : Int), rfl, by lia, by lia, BK (n := (0 + (i : Int)).toNat) (Wi a P L R E Ma U at' many (ns.getD at'.toNat 0) span near gs (0 + (i : Int)) p0 x4 x5 x6 H8) ⟨p0, x3, rfl, rfl, hl1, hl2, .inr ⟨?_, fun t ht => absurd ht (by lia)⟩⟩ ?_ ?_⟩
   ·rw [show p0 - near + ((0 : Nat) : Int) = p0 - near by lia, Int.emod_eq_of_lt (by lia) (by lia)]; lia
   ·rintro j σ H9 hj ⟨pl, y3, rfl, rfl, l1, l2, hor⟩
    walk_at "RD"
    refine ⟨_, Gk.k (k := Sum.inl pl) gm.eU, ?_⟩
    by_cases hu' : pl ∈ gs.map G.p
    ·rw [if_pos ((gm.keys pl).mpr hu')]
     walk_at "AUTO"
     have r1 := Int.emod_nonneg (pl - near + 1) (show span ≠ 0 by lia)
     have r2 := Int.emod_lt_of_pos (pl - near + 1) (show 0 < span by lia)
     refine ⟨_, _, rfl, rfl, by lia, by lia, .inr ?_⟩
     rcases hor with z | ⟨z1, z2⟩
     ·exact absurd hu' z
     ·refine ⟨?_, fun t ht => ?_⟩
      ·rw [z1, show near + (p0 - near + (j : Int)) % span - near + 1 = (p0 - near + (j : Int)) % span + 1 by lia, Int.emod_add_emod, show p0 - near + (j : Int) + 1 = p0 - near + ((j + 1 : Nat) : Int) by lia]
      ·rcases (by lia : t < j ∨ t = j) with e | e
       ·exact z2 t e
       ·subst e; rw [← z1]; exact hu'
    ·rw [if_neg (fun z => hu' ((gm.keys pl).mp z))]
     exact ⟨pl, _, rfl, rfl, l1, l2, .inl hu'⟩
   ·rintro σ H9 ⟨pl, y3, rfl, rfl, l1, l2, hor⟩
    have hfree : pl ∉ gs.map G.p := by
     rcases hor with z | ⟨z1, z2⟩
     ·exact z
     ·intro hin
      have hlen : (gs.map G.p).length = i := by rw [z5]; exact gm.len
      refine RI (near := near) (span := span) (o := p0 - near) (used := gs.map G.p) (by rw [hlen]; lia) fun t ht => ?_
      rw [hlen] at ht
      rcases (by lia : t < i ∨ t = i) with e | e
      ·exact z2 t (by lia)
      ·subst e
       rw [show (((0 + (t : Int)).toNat : Nat) : Int) = (t : Int) by lia] at z1
       rw [← z1]; exact hin
    walk_at "NX"
    refine DH fun Md hM => ?_
    walk_at "RD"
    refine ⟨_, Q0.k (k := Sum.inl pl) gm.eU (by rw [PySem.sizeLine_eq]; have := gm.kl; lia), ?_⟩
    refine hM _ _ ?_
    clear hM Md
    have hMU : Ma ≠ U := BQ gm.eM gm.eU (by intro z; cases z)
    have s9 : AI H5 (upd H9 U (.dK (Cp kvs (Sum.inl pl) (V.bl true)))) := s8.updFresh nU5
    have eM9 : upd H9 U (.dK (Cp kvs (Sum.inl pl) (V.bl true))) Ma = some (.lst (as.map V.ref)) := by rw [AL hMU]; exact gm.eM
    have eU9 : upd H9 U (.dK (Cp kvs (Sum.inl pl) (V.bl true))) U = some (.dK (Cp kvs (Sum.inl pl) (V.bl true))) := AN
    have at9 := gm.at_.upd (u := .dK (Cp kvs (Sum.inl pl) (V.bl true))) gm.eU (by intro ys z; cases z)
    generalize upd H9 U (.dK (Cp kvs (Sum.inl pl) (V.bl true))) = HA at s9 eM9 eU9 at9 ⊢
    have glA := gl.same s9
    have ePA := glA.eP
    have eLA := glA.eL
    have eRA := glA.eR
    have eEA := glA.eE
    clear eP8 eL8 eR8 eE8 gl8
    refine DH fun Md hM => ?_
    walk_at "RD"
    walk_at "AUTO"
    refine hM _ _ ?_
    clear hM Md
    refine DH fun Md hM => ?_
    delta J7
    walk_at "AUTO"
    intro TT HB f h sB eB
    walk_at "AUTO"
    refine ⟨rfl, _, _, rfl, _, _, rfl, rfl, ?_⟩
    refine hM _ _ ?_
    clear hM Md
    refine ⟨Cf [some (V.ref a), some (V.int at'), some (V.int many), some (V.int (ns.getD at'.toNat 0)), some (V.int (ns.getD at'.toNat 0 / 2 % 5)), some (V.ref P), some (V.ref L), some (V.ref R), some (V.int span), some (V.int near), some (V.ref E), some (V.ref Ma), some (V.ref U), some (V.int (0 + (i : Int))), some (V.int pl), y3, some (V.int (e0 * (span - 1) + (e1 - e0) * (pl - near)))] HB, ?_, ?_⟩
    ·walk_at "RD"
     split
     ·walk_at "AUTO"
      split
      ·walk_at "AUTO"
       exact ⟨_, _, rfl, rfl⟩
      ·exact ⟨_, _, rfl, rfl⟩
     ·exact ⟨_, _, rfl, rfl⟩
    rintro σ HB' ⟨f1, h1, rfl, rfl⟩
    walk_at "Q"
    walk_at "RD"
    have eMB := sB.get eM9
    have hff : ∃ f2 : Int, (if (if f1 < 1000 then f1 else 1000) > -1000 then if f1 < 1000 then f1 else 1000 else -1000) = f2 ∧ -1000 ≤ f2 ∧ f2 ≤ 1000 := ⟨_, rfl, by (repeat' split) <;> lia, by (repeat' split) <;> lia⟩
    obtain ⟨f2, ef2, f3, f4⟩ := hff
    rw [ef2]
    walk_at "NX"
    have hhh : ∃ h2 : Int, (if (if h1 < 1000 then h1 else 1000) > f2 then if h1 < 1000 then h1 else 1000 else f2) = h2 ∧ f2 ≤ h2 ∧ h2 ≤ 1000 := ⟨_, rfl, by (repeat' split) <;> lia, by (repeat' split) <;> lia⟩
    obtain ⟨h2, eh2, h3, h4⟩ := hhh
    walk_at "RD"
    rw [eh2]
    refine ⟨⟨_, eMB⟩, by decide, fun TP HC nC sC eC => ?_⟩
    have eMC := sC.get eMB
    have eUC := sC.get (sB.get eU9)
    have atC := (at9.same sB).same sC
    have sAll := (s9.trans sB).trans sC
    have lk := gm.kl
    have lg := gm.len
    have la := at9.len
    refine ⟨_, eMC, by rw [z5, PySem.sizeLine_eq]; lia, as ++ [TP], gs ++ [⟨pl, f2, h2⟩], Cp kvs (Sum.inl pl) (V.bl true), _, _, _, _, _, _, rfl, sAll.updFresh nM, ?_⟩
    have hkey : ∀ z : Int, (B7 (Cp kvs (Sum.inl pl : Key) (V.bl true)) (Sum.inl z)).isSome = true ↔ z ∈ (gs ++ [⟨pl, f2, h2⟩] : List G).map G.p := fun z => by
     rw [N3, zW, zb]
     by_cases e : z = pl
     ·subst e; simp
     ·rw [if_neg (fun q => e (Sum.inl.inj q)), gm.keys z]
      simp [e]
    refine ⟨by rw [AN, zW]; rfl, ?_, by rw [AL (Ne.symm hMU)]; exact eUC, by rw [zC, lg]; rfl, zT (Hh ..) (by lia), hkey, fun g hg => ?_, ?_, fun g hg => ?_⟩
    ·exact (atC.snoc (a := TP) (g := ⟨pl, f2, h2⟩) eC).upd eMC (by intro ys z; cases z)
    ·rcases zb.mp hg with z | z
     ·exact gm.ok g z
     ·rw [zK.mp z]
      exact ⟨by show -1000 ≤ pl; lia, by show pl ≤ 1000; lia, f3, h3, h4⟩
    ·rw [zW]
     exact TY gm.nd hfree
    ·rcases zb.mp hg with z | z
     ·exact gm.stretch g z
     ·rw [zK.mp z]
      exact ⟨l1, l2⟩
  ·rintro σ H8 ⟨as, gs, kvs, x1, x2, x3, x4, x5, x6, rfl, s8, gm⟩
   refine hM0 _ _ ?_; clear hM0 M0
   walk_at "RD"
   exact k Ma _ as gs n0M (s5.trans s8) gm.eM gm.at_ gm.len gm.ok gm.nd
theorem SK : AR ["_law_found"] ["_law_found"] (AG LP) := by walk_at "SC"
noncomputable def Jf : Sp := fun vs H Q _ => ∃ i : Int, vs = [.int i] ∧ Q (.bl true) H
theorem M8 (T : Tx K mg) : Af P w K mg base CX0 1 T.Pa T.MZ ["_law_found"] Jf := by
 refine T.K4.F.ok SK (fun _ _ _ _ h => by walk_at "LN") ?_
 ·walk_at "I2"
  obtain ⟨i, rfl, hq⟩ := h
  refine ⟨_, (AE (AK (Nh (AH Bf (by rfl) T.As Ar (AA (pv 0) (AA (BU (v := .ty "int") (by rfl) T.RJ Ng rfl) AC))) (Pr (Vy (AH Bf (by rfl) T.As Ar (AA (pv 0) (AA (BU (v := .ty "bool") (by rfl) T.SX QO rfl) AC)))))))), ?_⟩
  walk_at "RD"
  refine ⟨_, .int i, true, rfl, ?_⟩
  rw [if_pos rfl]
  exact ⟨_, .int i, false, rfl, hq⟩
theorem J5 : AR ["_law_found", "_law_due", "_law_k"] ["_law_found", "_law_due"] (AG HW) := by walk_at "SC"
noncomputable def Ky (K : W.Frag) : Sp := fun vs H Q _ => ∃ (x y : Addr) (xs : List Int), vs = [.ref x, .ref y] ∧ H x = some (.tup (xs.map V.int)) ∧ SqT K H y (xs.map V.int) ∧ xs.length ≤ 1000 ∧ Q (.bl true) H
noncomputable def W_num (x y : Addr) (H : Hp) : Nat → St → Hp → Prop := fun i σ H' => ∃ k, σ = [some (.ref x), some (.ref y), k] ∧ H' = H
theorem Kg (T : Tx K mg) : Af P w K mg base CX0 2 T.L0 T.Kz ["_law_found", "_law_due"] (Ky K) := by
 refine T.Hj.F.ok J5 (fun _ _ _ _ h => by walk_at "LN") ?_
 ·walk_at "I2"
  obtain ⟨x, y, xs, rfl, ex, ey, hl, k⟩ := h
  refine ⟨_, (AD (AY (IT (Cm (Bb (AH Bf (by rfl) T.As Ar (AA (pv 0) (AA (BU (v := .ty "tuple") (by rfl) T.QD N4 rfl) AC))))) (Fy (ptc GK (AH AJ (by rfl) T.Am Ac (AA (pv 0) AC)) (AH AJ (by rfl) T.Am Ac (AA (pv 1) AC))))).pt (AE (AK BP))
    AO)
   (AD (BO PassesOwn.never rfl (Bo (by rfl) T.B8 (AA (AH AJ (by rfl) T.Am Ac (AA (pv 1) AC)) AC)) (pgn 2 J5)
    (AE (AY (IT (Cm (Bb (pcl T.K4 (M8 T) hr AW (AA (pxi AS (pv 0) (pv 2)) AC)))) (Fy (ptc GK (pxi AS (pv 0) (pv 2)) (pxi AS (pv 1) (pv 2))))).pt (AE (AK BP))
      AO)))
   (AE (AK BP)))), ?_⟩
  walk_at "RD"
  walk_at "AUTO"
  refine ⟨_, rfl, _, rfl, _, Or.inr ey, ((xs.map V.int).length : Int), rfl, by rw [z5]; lia, by rw [z5]; lia, BK (n := (((xs.map V.int).length : Nat) : Int).toNat) (W_num x y H) ⟨none, rfl, rfl⟩ ?_ ?_⟩
  ·rintro i σ H1 hi ⟨k', rfl, rfl⟩
   rw [z5] at hi
   delta Jf
   walk_at "AUTO"
   exact ⟨_, rfl, rfl⟩
  ·rintro σ H1 ⟨k', rfl, rfl⟩
   walk_at "RD"
   exact k
theorem CJ : AR ["_law_stands", "_law_deed_here", "_law_word", "_law_place", "_law_one", "_law_two", "_law_foot", "_law_head"] ["_law_stands", "_law_deed_here"] (AG Lk) := by walk_at "SC"
noncomputable def SN (K : W.Frag) : Sp := fun vs H Q _ => ∃ (d q : Addr) (w : Str) (p x y : Int) (gs : List G), vs = [.ref d, .ref q] ∧ SqT K H q [.str w, .int p, .int x, .int y] ∧ A0 H d gs ∧ ∀ D H', H D = none → AI H H' → H' D = some (.tup [.int p, .int (BI w gs p x y).1, .int (BI w gs p x y).2]) → Q (.ref D) H'
theorem Jo (T : Tx K mg) : Af P w K mg base CX0 1 T.Pm T.Mw ["_law_stands", "_law_deed_here"] (SN K) := by
 refine T.Hx.F.ok CJ (fun _ _ _ _ h => by walk_at "LN") ?_
 ·walk_at "I2"
  obtain ⟨d, q, w, p, x, y, gs, rfl, hq, hd, k⟩ := h
  refine ⟨_, (AD (Gy (pv 1) (Fx (n := 4) rfl (Ai (pgn 2 CJ) (Ai (pgn 3 CJ) (Ai (pgn 4 CJ) (Ai (pgn 5 CJ) C4))))))
   (AD (AY (ptc Au (pv 2) AV) (AE (AK (AZ (AA (pv 3) (AA (pv 4) (AA (pv 5) AC))))))
    AO)
   (AD (Gy (U8 hu (pv 0) (pv 3) (AZ (AA AB (AA AB AC))) ⟨rfl, rfl, rfl, rfl⟩) (Fx (n := 2) rfl (Ai (pgn 6 CJ) (Ai (pgn 7 CJ) C4))))
   (AD (AY (ptc Au (pv 2) AV) (AE (AK (AZ (AA (pv 3) (AA (AF Ag (pv 6) (pv 4)) (AA (AF Ag (pv 7) (pv 5)) AC))))))
    AO)
   (AD (AY (ptc Au (pv 2) AV) (AE (AK (AZ (AA (pv 3) (AA (AF Aa (pv 6) (pv 4)) (AA (AF Aa (pv 7) (pv 5)) AC))))))
    AO)
   (AE (AK (AZ (AA (pv 3) (AA (pv 6) (AA (pv 7) AC))))))))))), ?_⟩
  unfold BI at k
  refine ⟨_, rfl, q, _, rfl, hq, rfl, _, _, rfl, _, _, rfl, _, _, rfl, _, _, rfl, rfl, ?_⟩
  dsimp only
  walk_at "Q"
  walk_at "RD"
  by_cases h1 : w = "put"
  ·rw [if_pos h1] at k
   rw [if_pos (z8 h1)]
   exact ⟨by decide, k⟩
  rw [if_neg h1] at k
  rw [if_neg (fun z => h1 (z6 z))]
  walk_at "NX"
  walk_at "Q"
  walk_at "RD"
  refine ⟨hd.isD, by decide, fun z0 H1 n1 s1 e1 => ?_⟩
  obtain ⟨o, gt, hn, hs⟩ := (hd.same s1).get p
  have hv : ∃ a f h, o.getD (V.ref z0) = V.ref a ∧ H1 a = some (.tup [.int f, .int h]) ∧ (Ap gs p).elim 0 G.f = f ∧ (Ap gs p).elim 0 G.h = h := by
   cases hg : Ap gs p with
   | none => rw [hn hg]; exact ⟨z0, 0, 0, rfl, e1, rfl, rfl⟩
   | some g => obtain ⟨a, rfl, ea⟩ := hs g hg; exact ⟨a, g.f, g.h, rfl, ea, rfl, rfl⟩
  obtain ⟨a, f, h, ea, et, ef, eh⟩ := hv
  rw [ef, eh] at k
  refine ⟨o, gt, a, ea, _, SqT.of et, rfl, _, _, rfl, _, _, rfl, rfl, ?_⟩
  walk_at "NX"
  walk_at "Q"
  walk_at "RD"
  by_cases h2 : w = "lift"
  ·rw [if_pos h2] at k
   rw [if_pos (z8 h2)]
   first | exact ⟨by decide, fun D H' n s e => k D H' (s1.free n) (s1.trans s) e⟩ | exact ⟨_, rfl, _, rfl, by decide, fun D H' n s e => k D H' (s1.free n) (s1.trans s) e⟩
  rw [if_neg h2] at k
  rw [if_neg (fun z => h2 (z6 z))]
  walk_at "NX"
  walk_at "Q"
  walk_at "RD"
  by_cases h3 : w = "sink"
  ·rw [if_pos h3] at k
   rw [if_pos (z8 h3)]
   first | exact ⟨by decide, fun D H' n s e => k D H' (s1.free n) (s1.trans s) e⟩ | exact ⟨_, rfl, _, rfl, by decide, fun D H' n s e => k D H' (s1.free n) (s1.trans s) e⟩
  rw [if_neg h3] at k
  rw [if_neg (fun z => h3 (z6 z))]
  walk_at "NX"
  walk_at "RD"
  exact ⟨by decide, fun D H' n s e => k D H' (s1.free n) (s1.trans s) e⟩
theorem B5 : AR ["_law_stands", "_law_past", "_law_deed_here", "_law_word", "_law_place", "_law_one", "_law_two", "_law_gate"] ["_law_stands", "_law_past", "_law_deed_here"] (AG HS) := by walk_at "SC"
noncomputable def QA {K : W.Frag} {mg : Str → Option Value} (T : Tx K mg) : Sp := fun vs H Q _ => ∃ (b S P : Addr) (ow : List Addr) (gs : List G) (past : List (List G)) (D L q : Addr) (w : Str) (p x y : Int), vs = [.ref D, .ref L, .ref q] ∧ SqT K H q [.str w, .int p, .int x, .int y] ∧ Wd T.AQ H b S P ow gs past D L ∧ Wrd w ∧ ∀ H', AI H H' → Q (.str (Uy (BX w gs past p x y))) H'
theorem Po (T : Tx K mg) : Af P w K mg base CX0 2 T.L3 T.Kr ["_law_stands", "_law_past", "_law_deed_here"] (QA T) := by
 refine T.MA.F.ok B5 (fun _ _ _ _ h => by walk_at "LN") ?_
 ·walk_at "I2"
  obtain ⟨b, S, P, ow, gs, past, D, L, q, w, p, x, y, rfl, hq, hw, wd, k⟩ := h
  refine ⟨_, (AD (Gy (pv 2) (Fx (n := 4) rfl (Ai (pgn 3 B5) (Ai (pgn 4 B5) (Ai (pgn 5 B5) (Ai (pgn 6 B5) C4))))))
   (AD (AY (ptc Au (pv 3) AV) (AD (AY (ptc Ee (pv 4) AB) (AE (AK AV))
      AO)
     (AE (AK (pxi AM (Ae (AA AV (AA AV AC))) (CO Pe (by rfl) T.RJ Ng (AA (pec DI (pv 4) (AH AJ (by rfl) T.Am Ac (AA (pv 1) AC))) AC))))))
    AO)
   (AD (AY (E4 (ptc Au (pv 3) AV) (C8 (SL (Vk hu (pv 4) (pv 0))))).pt (AE (AK AV))
    AO)
   (BB (AY (E4 (ptc GK (pv 3) AV) (C8 (SL (UB hu (pv 4) (pv 0))))).pt (AE (AK AV))
    AO)
   (AD (pst 7 B5 (pcl T.Hx (Jo T) hr AW (AA (pv 0) (AA (pv 2) AC))))
   (AD (AY (ptc DI (pxi AS (pv 7) AB) (pxi AS (pv 7) AB)) (AE (AK AV))
    AO)
   (AD (AY (ptc DI (AH (Ta (by rfl)) (by rfl) T.QZ Ps (AA (AH HK (by rfl) T.Rf NT (AA (pxi AS (pv 7) AB) AC)) (AA (AH HK (by rfl) T.Rf NT (AA (pxi AS (pv 7) AB) AC)) (AA (AH HK (by rfl) T.Rf NT (AA (pxi AS (pv 7) AB) AC)) AC)))) AB) (AE (AK AV))
    AO)
   (AD (AY (E4 (ptc Au (pv 3) AV) (C8 (ptc Sw (AH IK (by rfl) T.Am Ac (AA (pv 0) AC)) AB))).pt (AE (AK AV))
    AO)
   (AD (AY (ptc Sw (AH AJ (by rfl) T.Am Ac (AA (pv 1) AC)) AB) (AE (AK AV))
    AO)
   (AE (AK AV))))))))))), ?_⟩
  obtain ⟨o, gt, hn, hs⟩ := hw.dk.get p
  have ho := Re (H := H) (D := D) hn hs
  obtain ⟨xs, eL, lL⟩ := hw.plen
  obtain ⟨kvs, eD, lD⟩ := hw.dk.len
  refine ⟨_, rfl, q, _, rfl, hq, rfl, _, _, rfl, _, _, rfl, _, _, rfl, _, _, rfl, rfl, ?_⟩
  dsimp only
  walk_at "Q"
  walk_at "RD"
  by_cases nb : w = "back"
  ·rw [if_pos (z8 nb)]
   unfold BX JO at k
   rw [if_pos nb] at k
   by_cases h1 : p < 1
   ·rw [if_pos h1] at k
    rw [if_pos (z8 h1)]
    exact k _ (AI.refl _)
   rw [if_neg h1] at k
   rw [if_neg (fun z => h1 (z6 z))]
   refine ⟨by decide, fun z0 H1 n1 s1 e1 => ⟨_, .inl (SqL.of (s1.get eL)), _, SqL.of e1, ?_⟩⟩
   rw [lL]
   by_cases h2 : (past.length : Int) < p
   ·rw [if_pos h2] at k
    rw [if_pos (z8 h2)]
    exact ⟨_, rfl, k _ s1⟩
   ·rw [if_neg h2] at k
    rw [if_neg (fun z => h2 (z6 z))]
    exact ⟨_, rfl, k _ s1⟩
  rw [if_neg (fun z => nb (z6 z))]
  walk_at "NX"
  walk_at "RD"
  have hd1 := UU (gs := gs) (past := past) (p := p) (x := x) (y := y) wd nb
  refine Wa gt (fun hp ho' => ?_) (fun hB => ?_)
  ·rw [ho] at ho'
   rw [hd1.1 hp (z6 ho')] at k
   exact k _ (AI.refl _)
  refine ⟨fun σ' H' => σ' = [some (.ref D), some (.ref L), some (.ref q), some (.str w), some (.int p), some (.int x), some (.int y), none] ∧ H' = H ∧ (w = "put" → p ∉ AT gs) ∧ (w ≠ "put" → p ∈ AT gs), ?_, ?_⟩
  ·walk_at "RD"
   by_cases hp : w = "put"
   ·rw [if_neg (by simp [hp])]
    exact ⟨fun z => by have := hB hp; rw [ho] at this; exact of_decide_eq_false this, fun z => absurd hp z⟩
   ·rw [if_pos (by simp [hp])]
    refine ⟨o, gt, ?_⟩
    rw [ho]
    by_cases hm : p ∈ AT gs
    ·rw [if_neg (by simp [hm])]
     exact ⟨fun z => absurd z hp, fun _ => hm⟩
    ·rw [if_pos (by simp [hm])]
     rw [hd1.2 hp hm] at k
     exact k _ (AI.refl _)
  rintro σ' H' ⟨rfl, rfl, t1, t2⟩
  have de := SC (past := past) (x := x) (y := y) wd nb t1 t2 hw.bch.std
  rw [de] at k
  walk_at "Q"
  walk_at "RD"
  refine ⟨D, q, w, p, x, y, gs, rfl, hq, hw.dk, fun g H1 n1 s1 e1 => ?_⟩
  walk_at "NX"
  generalize (BI w gs p x y).1 = wf at *
  generalize (BI w gs p x y).2 = wh at *
  walk_at "RD"
  walk_at "AUTO"
  unfold DY DU at k
  by_cases h1 : wh < wf
  ·rw [if_pos h1] at k
   rw [if_pos (z8 h1)]
   exact k _ s1
  rw [if_neg h1] at k
  rw [if_neg (fun z => h1 (z6 z))]
  refine ⟨_, SqT.of e1, _, rfl, _, rfl, _, SqT.of e1, _, rfl, _, rfl, _, SqT.of e1, _, rfl, _, rfl, fun m hm => ?_⟩
  have hm1 := hm 1000
  by_cases h2 : InB p ∧ InB wf ∧ InB wh
  ·have hle : m ≤ 1000 := hm1.mpr ⟨by split <;> lia, by split <;> lia, by split <;> lia⟩
   rw [if_neg (fun z => by have := z6 z; lia)]
   rw [if_pos h2] at k
   have tail : (∀ X, AI H' X → Q (.str (Uy (if 300 ≤ past.length then some .deeds else none))) X) → ∃ x, (SqL K H1 L x ∨ SqT K H1 L x) ∧ if decide (300 ≤ (x.length : Int)) = true then Q (V.str (Str.ofString "deeds full")) H1 else Q (V.str (Str.ofString "")) H1 := fun k => by
    refine ⟨_, .inl (SqL.of (s1.get eL)), ?_⟩
    rw [lL]
    by_cases h5 : 300 ≤ past.length
    ·rw [if_pos h5] at k
     rw [if_pos (z8 (by lia))]
     exact k _ s1
    ·rw [if_neg h5] at k
     rw [if_neg (fun z => h5 (by have := z6 z; lia))]
     exact k _ s1
   by_cases h3 : w = "put"
   ·rw [if_pos (z8 h3)]
    refine ⟨kvs, s1.get eD, ?_⟩
    rw [lD]
    by_cases h4 : 40 ≤ gs.length
    ·rw [if_pos ⟨h3, h4⟩] at k
     rw [if_pos (z8 (by lia))]
     exact k _ s1
    ·rw [if_neg (fun z => h4 z.2)] at k
     rw [if_neg (fun z => h4 (by have := z6 z; lia))]
     exact tail k
   ·rw [if_neg (fun z => h3 z.1)] at k
    rw [if_neg (fun z => h3 (z6 z))]
    exact tail k
  ·rw [if_neg h2] at k
   rw [if_pos (z8 (by
    by_cases z : 1000 < m
    ·exact z
    ·exfalso
     apply h2
     obtain ⟨q1, q2, q3⟩ := hm1.mp (by lia)
     refine ⟨⟨?_, ?_⟩, ⟨?_, ?_⟩, ?_, ?_⟩ <;> (revert q1 q2 q3; split <;> split <;> split <;> lia)))]
   exact k _ s1
theorem BE : AR ["_law_beach", "_law_deed_here", "_law_word", "_law_place", "_law_one", "_law_two", "_law_told"] ["_law_beach", "_law_deed_here"] (AG NX) := by walk_at "SC"
noncomputable def UT {K : W.Frag} {mg : Str → Option Value} (T : Tx K mg) : Sp := fun vs H Q _ => ∃ (b S P : Addr) (ow : List Addr) (gs : List G) (past : List (List G)) (q : Addr) (w : Str) (p x y : Int), vs = [.ref b, .ref q] ∧ SqT K H q [.str w, .int p, .int x, .int y] ∧ Bch T.AQ H b S P ow gs past ∧ Wrd w ∧ (∀ e, BX w gs past p x y = some e → ∀ D H', H D = none → AI H H' → H' D = some (.lst [.bl false, .str (V7 e)]) → Q (.ref D) H') ∧ (BX w gs past p x y = none → ∀ D H' S' P' ow' v, H D = none → Kp b P H H' → Bch T.AQ H' b S' P' ow' (Dc w gs past p x y) (JA w gs past p) → (∀ a ∈ ow', a ∈ ow ∨ H a = none) → (∃ u, H' P = some u) → D ∉ ow' → H' D = some (.lst [.bl true, v]) → (w = "back" → v = .int ((JA w gs past p).length : Int)) → (w ≠ "back" → ∃ t, v = .ref t ∧ H' t = some (.tup [.int p, .int (BI w gs p x y).1, .int (BI w gs p x y).2])) → Q (.ref D) H')
theorem UA (T : Tx K mg) : Af P w K mg base CX0 4 T.RH T.PD ["_law_beach", "_law_deed_here"] (UT T) := by
 refine T.RA.F.ok BE (fun _ _ _ _ h => by walk_at "LN") ?_
 ·walk_at "I2"
  obtain ⟨b, S, P, ow, gs, past, q, w, p, x, y, rfl, hq, hb, wd, kE, k⟩ := h
  refine ⟨_, (AD (Gy (pv 1) (Fx (n := 4) rfl (Ai (pgn 2 BE) (Ai (pgn 3 BE) (Ai (pgn 4 BE) (Ai (pgn 5 BE) C4))))))
   (AD (pst 6 BE AV)
   (BB (Yw rfl rfl (fun _ _ _ hp => (AD (AY (ptc Au (pv 2) AV) (AE (AK (Ae (AA BP (AA (Hi (pv 0) T.AU T.HZ.mt (QW T) (hr.mono (by decide)) T.HZ.b .nil hp (AA (pv 3) (AA (pv 4) (AA (pv 5) AC)))) AC)))))
           AO)
      (AD (AY (ptc Au (pv 2) AV) (AE (AK (Ae (AA BP (AA (Hi (pv 0) T.AU T.Fu.mt (Oi T) (hr.mono (by decide)) T.Fu.b .nil hp (AA (pv 3) AC)) AC)))))
       AO)
      (AD (AY (ptc Au (pv 2) AV) (AE (AK (Ae (AA BP (AA (Hi (pv 0) T.AU T.CV.mt (Iq T) (hr.mono (by decide)) T.CV.b .nil hp (AA (pv 3) (AA (pv 4) (AA (pv 5) AC)))) AC)))))
       AO)
      (AD (AY (ptc Au (pv 2) AV) (AE (AK (Ae (AA BP (AA (Hi (pv 0) T.AU T.F4.mt (OT T) (hr.mono (by decide)) T.F4.b .nil hp (AA (pv 3) (AA (pv 4) (AA (pv 5) AC)))) AC)))))
       AO)
      (AD (AY (E4 (ptc Au (pv 3) AB) (C8 (ptc Au (pv 4) AB))).pt (AE (AK (Ae (AA BP (AA (UC (pv 0) T.AU T.CA.mt (IV T) (hr.mono (by decide)) T.CA.bd.choose_spec.2 T.CA.bd.choose_spec.1 hp) AC)))))
       AO)
      (AE (AK (Ae (AA BP (AA (Hi (pv 0) T.AU T.CA.mt (IV T) (hr.mono (by decide)) T.CA.b .nil hp (AA (pv 3) AC)) AC)))))))))))
    (PHs.cons (by rfl) T.Ql (by decide) (fun _ _ => (AE (pst 6 BE AV))) (PHs.cons (by rfl) T.TR (by decide) (fun _ _ => (AE (pst 6 BE AV))) (PHs.cons (by rfl) T.Ko (by decide) (fun _ _ => (AE (pst 6 BE AV))) (PHs.cons (by rfl) T.Ef (by decide) (fun _ _ => (AE (pst 6 BE AV))) (PHs.cons (by rfl) T.Lw (by decide) (fun _ _ => (AE (pst 6 BE AV))) (PHs.cons (by rfl) T.Lu (by decide) (fun _ _ => (AE (pst 6 BE AV))) (PHs.cons (by rfl) T.I0 (by decide) (fun _ _ => (AE (pst 6 BE AV))) PHs.nil))))))))
   (AE (AK (Ae (AA BP (AA (pv 6) AC)))))))), ?_⟩
  obtain ⟨dx, eb⟩ := hb.at_
  refine ⟨_, rfl, q, _, rfl, hq, rfl, _, _, rfl, _, _, rfl, _, _, rfl, _, _, rfl, rfl, ?_⟩
  walk_at "RD"
  refine ⟨fun σ' H' => ∃ e, BX w gs past p x y = some e ∧ AI H H' ∧ σ' = [some (.ref b), some (.ref q), some (.str w), some (.int p), some (.int x), some (.int y), some (.str (V7 e))], ?_, ?_⟩
  ·refine Vf fun N hN => ?_
   have hE : ∀ e H', BX w gs past p x y = some e → JX e = true → AI H H' → N (T.err e) [some (V.ref b), some (V.ref q), some (V.str w), some (V.int p), some (V.int x), some (V.int y), some (V.str (Str.ofString ""))] H' := fun e H' he hd s => by
    refine hN _ _ _ ?_
    cases e <;> first
     | exact absurd hd zS
     | exact EK T.xs 0 rfl rfl rfl (Exists.intro _ (And.intro he (And.intro s rfl)))
     | exact EK T.xs 1 rfl rfl rfl (Exists.intro _ (And.intro he (And.intro s rfl)))
     | exact EK T.xs 2 rfl rfl rfl (Exists.intro _ (And.intro he (And.intro s rfl)))
     | exact EK T.xs 3 rfl rfl rfl (Exists.intro _ (And.intro he (And.intro s rfl)))
     | exact EK T.xs 4 rfl rfl rfl (Exists.intro _ (And.intro he (And.intro s rfl)))
     | exact EK T.xs 5 rfl rfl rfl (Exists.intro _ (And.intro he (And.intro s rfl)))
     | exact EK T.xs 6 rfl rfl rfl (Exists.intro _ (And.intro he (And.intro s rfl)))
   clear hN
   delta SD
   by_cases h_put : w = "put"
   ·rw [if_pos (z8 h_put)]
    refine ⟨dx, _, eb, rfl, b, S, P, ow, gs, past, p, x, y, rfl, hb, fun e he H' s => hE e H' ((Lh h_put).trans he) (V9 he) s, fun  hno H' S' ow' D kp hb' ho eD => ⟨by decide, fun D2 H2 n2 s2 e2 => ?_⟩⟩
    have nb : w ≠ "back" := by rw [h_put]; decide
    refine k ((Lh h_put).trans hno) D2 H2 S' P ow' _ (kp.free hb'.live.1 hb'.live.2 n2) (kp.trans (Kp.of s2)) ?_ ho (hb'.live.2.imp fun _ z => s2.get z) (hb'.off n2) e2 (fun z => absurd z nb) fun _ => ⟨D, rfl, ?_⟩
    ·rw [FA nb (by rw [h_put]; decide), D6 nb, LI h_put]
     exact hb'.same s2
    ·rw [LI h_put]
     exact s2.get (eD)
   rw [if_neg (fun z => h_put (z6 z))]
   by_cases h_take : w = "take"
   ·rw [if_pos (z8 h_take)]
    refine ⟨dx, _, eb, rfl, b, S, P, ow, gs, past, p, rfl, hb, fun e he H' s => hE e H' ((JZ h_take).trans he) (VF he) s, fun g hg hno H' S' ow' D kp hb' ho eD => ⟨by decide, fun D2 H2 n2 s2 e2 => ?_⟩⟩
    have nb : w ≠ "back" := by rw [h_take]; decide
    refine k ((JZ h_take).trans hno) D2 H2 S' P ow' _ (kp.free hb'.live.1 hb'.live.2 n2) (kp.trans (Kp.of s2)) ?_ ho (hb'.live.2.imp fun _ z => s2.get z) (hb'.off n2) e2 (fun z => absurd z nb) fun _ => ⟨D, rfl, ?_⟩
    ·rw [NU h_take, D6 nb]
     exact hb'.same s2
    ·rw [SM h_take hg]
     exact s2.get ((Bc hg).2 ▸ eD)
   rw [if_neg (fun z => h_take (z6 z))]
   by_cases h_lift : w = "lift"
   ·rw [if_pos (z8 h_lift)]
    refine ⟨dx, _, eb, rfl, b, S, P, ow, gs, past, p, x, y, rfl, hb, fun e he H' s => hE e H' ((Mg h_lift).trans he) (RN he) s, fun g hg hno H' S' ow' D kp hb' ho eD => ⟨by decide, fun D2 H2 n2 s2 e2 => ?_⟩⟩
    have nb : w ≠ "back" := by rw [h_lift]; decide
    refine k ((Mg h_lift).trans hno) D2 H2 S' P ow' _ (kp.free hb'.live.1 hb'.live.2 n2) (kp.trans (Kp.of s2)) ?_ ho (hb'.live.2.imp fun _ z => s2.get z) (hb'.off n2) e2 (fun z => absurd z nb) fun _ => ⟨D, rfl, ?_⟩
    ·rw [FA nb (by rw [h_lift]; decide), D6 nb, Nj h_lift hg]
     exact hb'.same s2
    ·rw [Nj h_lift hg]
     exact s2.get (eD)
   rw [if_neg (fun z => h_lift (z6 z))]
   by_cases h_sink : w = "sink"
   ·rw [if_pos (z8 h_sink)]
    refine ⟨dx, _, eb, rfl, b, S, P, ow, gs, past, p, x, y, rfl, hb, fun e he H' s => hE e H' ((MY h_sink).trans he) (RN he) s, fun g hg hno H' S' ow' D kp hb' ho eD => ⟨by decide, fun D2 H2 n2 s2 e2 => ?_⟩⟩
    have nb : w ≠ "back" := by rw [h_sink]; decide
    refine k ((MY h_sink).trans hno) D2 H2 S' P ow' _ (kp.free hb'.live.1 hb'.live.2 n2) (kp.trans (Kp.of s2)) ?_ ho (hb'.live.2.imp fun _ z => s2.get z) (hb'.off n2) e2 (fun z => absurd z nb) fun _ => ⟨D, rfl, ?_⟩
    ·rw [FA nb (by rw [h_sink]; decide), D6 nb, Ni h_sink hg]
     exact hb'.same s2
    ·rw [Ni h_sink hg]
     exact s2.get (eD)
   rw [if_neg (fun z => h_sink (z6 z))]
   have hw := wd.last h_put h_take h_lift h_sink
   have back : ∀ n, n = p → JI T [V.ref b, V.int n] H (fun v H1 => 2 ≤ sizeLine ∧ ∀ (D : Addr) (H' : Hp), H1 D = none → AI H1 H' → H' D = some (HO.lst [V.bl true, v]) → Q (V.ref D) H') (fun cls _ H' => N cls [some (V.ref b), some (V.ref q), some (V.str w), some (V.int p), some (V.int x), some (V.int y), some (V.str (Str.ofString ""))] H') := fun n hn => by
    subst hn
    refine ⟨b, S, P, ow, gs, past, n, rfl, hb, fun e he => hE e H ((Fz hw).trans he) (VP he) (AI.refl _), fun hno H' S' P' ow' kp hb' ho => ⟨by decide, fun D2 H2 n2 s2 e2 => ?_⟩⟩
    have kp' : Kp b P H H' := fun a u h1 _ e => kp a u h1 h1 e
    obtain ⟨ps, eP, _⟩ := hb.pa
    have neP : P ≠ b := hb.neb eP fun _ _ _ z => by cases z
    have lP : ∃ u, H' P = some u := ⟨_, kp P _ neP neP eP⟩
    have eG : Dc w gs past n x y = past.getD (past.length - n.toNat) [] := if_pos hw
    have eP' : JA w gs past n = past.take (past.length - n.toNat) := if_pos hw
    refine k ((Fz hw).trans hno) D2 H2 S' P' ow' _ (kp'.free hb'.live.1 lP n2) (kp'.trans (Kp.of s2)) ?_ ho (lP.imp fun _ z => s2.get z) (hb'.off n2) e2 (fun _ => by rw [eP']) fun z => absurd hw z
    rw [eG, eP']
    exact hb'.same s2
   by_cases h5 : p = 1
   ·rw [if_pos (z8 h5)]
    by_cases h6 : x = 1
    ·rw [if_pos (z8 h6)]
     exact ⟨dx, _, eb, rfl, back 1 h5.symm⟩
    ·rw [if_neg (fun z => h6 (z6 z))]
     exact ⟨dx, _, eb, rfl, back p rfl⟩
   ·rw [if_neg (fun z => h5 (z6 z))]
    exact ⟨dx, _, eb, rfl, back p rfl⟩
  ·rintro σ' H' ⟨e, he, s, rfl⟩
   walk_at "RD"
   exact ⟨by decide, fun D H2 n2 s2 e2 => kE e he D H2 (s.free n2) (s.trans s2) e2⟩
theorem CN : AR ["_law_stands", "_law_past", "_law_deed_here", "_law_word", "_law_place", "_law_one", "_law_two", "_law_kept_here", "_law_count", "_law_gate"] ["_law_stands", "_law_past", "_law_deed_here"] (AG Mr) := by walk_at "SC"
noncomputable def T1 {K : W.Frag} {mg : Str → Option Value} (T : Tx K mg) : Sp := fun vs H Q _ => ∃ (b S P : Addr) (ow : List Addr) (gs' gs : List G) (past' past : List (List G)) (D L q : Addr) (w : Str) (p x y : Int), vs = [.ref D, .ref L, .ref q] ∧ SqT K H q [.str w, .int p, .int x, .int y] ∧ Bch T.AQ H b S P ow (Dc w gs past p x y) (JA w gs past p) ∧ Std gs ∧ past.length ≤ 300 ∧ A0 H D gs ∧ (∃ ds : List Addr, H L = some (.lst (ds.map V.ref)) ∧ Paired (A0 H) ds past ∧ D ∉ ds) ∧ L ∉ ow ∧ Wrd w ∧ BX w gs past p x y = none ∧ ∀ H', Wd T.AQ H' b S P ow (Dc w gs past p x y) (JA w gs past p) D L → Kept (L :: ow) H H' (L :: ow) → Q .non H'
theorem Ti (T : Tx K mg) : Af P w K mg base CX0 2 T.Ri T.Ov ["_law_stands", "_law_past", "_law_deed_here"] (T1 T) := by
 refine T.RG.F.ok CN (fun _ _ _ _ h => by walk_at "LN") ?_
 ·walk_at "I2"
  obtain ⟨b, S, P, ow, gs', gs, past', past, D, L, q, w, p, x, y, rfl, hq, hb, sd, l3, hd, ⟨ds, eL, pr, hds⟩, hL, wd, hno, k⟩ := h
  refine ⟨_, (AD (Gy (pv 2) (Fx (n := 4) rfl (Ai (pgn 3 CN) (Ai (pgn 4 CN) (Ai (pgn 5 CN) (Ai (pgn 6 CN) C4))))))
   (AD (AY (ptc Au (pv 3) AV) (AD (pst 7 CN (pxi AM (pv 1) (AF Aa (AH AJ (by rfl) T.Am Ac (AA (pv 1) AC)) (pv 4))))
     (AD (Av (VV PySem.F.plainAttrs_dict PySem.F.slot_dict_clear PySem.F.type_dict_clear Tn (pv 0)))
     (AD (Av (XH PySem.F.plainAttrs_dict PySem.F.slot_dict_update PySem.F.type_dict_update W7 (pv 0) (AA (pv 7) AC)))
     (AD (BO PassesOwn.never rfl (Bo (by rfl) T.B8 (AA (pv 4) AC)) (pgn 8 CN)
      (AE (Av (VV PySem.F.plainAttrs_list PySem.F.slot_list_pop PySem.F.type_list_pop XQ (pv 1)))))
     (AE WH)))))
    AO)
   (AD (pst 9 CN (pcl T.Hx (Jo T) hr AW (AA (pv 0) (AA (pv 2) AC))))
   (AD (Av (BJ (pv 1) (CO SZ (by rfl) T.ZT Wf (AA (pv 0) AC))))
   (AE (AY (ptc Au (pv 3) AV) (AE (Av (Ug (pv 0) (pv 4) ⟨rfl, rfl, rfl, rfl⟩)))
    (AE (TB hu (pv 0) (pv 4) (AZ (AA (pxi AS (pv 9) AB) (AA (pxi AS (pv 9) AB) AC))) rfl)))))))), ?_⟩
  obtain ⟨kvs, ks, eD, hd2⟩ := hd.at_
  have lds := Paired.length pr
  refine ⟨_, rfl, q, _, rfl, hq, rfl, _, _, rfl, _, _, rfl, _, _, rfl, _, _, rfl, rfl, ?_⟩
  dsimp only
  walk_at "Q"
  walk_at "RD"
  by_cases hw : w = "back"
  ·rw [if_pos (z8 hw)]
   rw [Fz hw] at hno
   unfold JO at hno
   have h1 : 1 ≤ p := by
    by_cases z : p < 1
    ·rw [if_pos z] at hno; cases hno
    ·lia
   have h2 : p ≤ past.length := by
    by_cases z : (past.length : Int) < p
    ·rw [if_neg (by lia), if_pos z] at hno; cases hno
    ·lia
   have hj : past.length - p.toNat < past.length := by lia
   have ej : (((ds.map V.ref).length : Nat) : Int) - p = ((past.length - p.toNat : Nat) : Int) := by rw [z5]; lia
   have eG : Dc w gs past p x y = past[past.length - p.toNat] := by
    unfold Dc
    rw [if_pos hw, zI, z4 hj]
    rfl
   have eP : JA w gs past p = past.take (past.length - p.toNat) := if_pos hw
   obtain ⟨dj, hdj, kj⟩ := Paired.get pr (z4 hj)
   have hdD : D ≠ dj := fun z => hds (by rw [z]; exact zU hdj)
   obtain ⟨kvj, _, eJ, _⟩ := kj.at_
   refine ⟨_, .inl (SqL.of eL), _, SqL.of eL, V.ref dj, ?_, ?_⟩
   ·rw [ej]
    exact Bx hdj
   delta aS tBM Su XG
   have DnL : D ≠ L := BQ eD eL fun z => by cases z
   refine ⟨XN eD, ⟨_, eD⟩, XN AN, hdD, AN, kvj, (AL hdD.symm).trans eJ, ?_⟩
   have k2 : DL D L H (upd (upd H D (.dK [])) D (.dK kvj)) := DL.updD.trans DL.updD
   have eL2 : upd (upd H D (.dK [])) D (.dK kvj) L = some (.lst (ds.map V.ref)) := (AL DnL.symm).trans ((AL DnL.symm).trans eL)
   have eD2 : upd (upd H D (.dK [])) D (.dK kvj) D = some (.dK kvj) := AN
   generalize upd (upd H D (.dK [])) D (.dK kvj) = H2 at *
   refine ⟨_, rfl, _, rfl, by lia, by lia, BK (fun i σ H' => ∃ o, σ = [some (V.ref D), some (V.ref L), some (V.ref q), some (V.str w), some (V.int p), some (V.int x), some (V.int y), some (V.ref dj), o, none] ∧ DL L L H2 H' ∧ H' L = some (.lst ((ds.take (ds.length - i)).map V.ref))) ⟨_, rfl, DL.of (AI.refl _), by rw [Nat.sub_zero, zl]; exact eL2⟩ ?_ ?_⟩
   ·rintro i σ H3 hi ⟨o, rfl, k3, e3⟩
    delta aS rPop
    have hm : (ds.take (ds.length - i)).length = ds.length - i := by rw [zh]; lia
    have hlt : ds.length - i - 1 < ds.length := by lia
    refine ⟨tyV_l e3, _, e3, ⟨V.ref ds[ds.length - i - 1], ?_⟩, ⟨_, rfl⟩, k3.trans DL.updL, ?_⟩
    ·rw [z5, hm, zJ, qG (by lia), z4 hlt]
     rfl
    ·rw [AN, List.dropLast_eq_take, z5, hm, ← List.map_take, List.take_take, show min (ds.length - i - 1) (ds.length - i) = ds.length - (i + 1) by lia]
   ·rintro σ H3 ⟨o, rfl, k3, e3⟩
    have k13 : DL D L H H3 := fun a u h1 h2 e => k3 a u h2 h2 (k2 a u h1 h2 e)
    have eD3 := k3 D _ DnL DnL eD2
    have lj : ds.length - p.toNat = past.length - p.toNat := by lia
    rw [lj] at e3
    refine k H3 ⟨hb.dl eD eL hL k13, ?_, ⟨ds.take (past.length - p.toNat), e3, ?_, fun z => hds (zm z)⟩, hL⟩ (Kept.dl eD eL k13 ⟨_, eD3⟩ ⟨_, e3⟩)
    ·rw [eG]
     exact kj.copy eJ eD3 fun _ _ e => k13.tup eD eL e
    ·rw [eP]
     exact Paired.takeP (Paired.dl pr hds eD eL k13) _
  ·rw [if_neg (fun z => hw (z6 z))]
   walk_at "NX"
   walk_at "Q"
   walk_at "RD"
   refine ⟨D, q, w, p, x, y, gs, rfl, hq, hd, fun g H1 n1 s1 e1 => ?_⟩
   walk_at "NX"
   walk_at "Q"
   walk_at "RD"
   refine ⟨⟨_, s1.get eL⟩, kvs, s1.get eD, fun c H2 n2 s2 e2 => ⟨_, s2.get (s1.get eL), ?_, ?_⟩⟩
   ·rw [z5, PySem.sizeLine_eq]; lia
   walk_at "NX"
   walk_at "RD"
   have eD2 := s2.get (s1.get eD)
   have eL2 := s2.get (s1.get eL)
   have cD : c ≠ D := (Ah (s1.get eD) n2).symm
   have cL : c ≠ L := (Ah (s1.get eL) n2).symm
   have DnL : D ≠ L := BQ eD eL fun z => by cases z
   have k3 : DL D L H (upd H2 L (.lst (ds.map V.ref ++ [V.ref c]))) := (DL.of (s1.trans s2)).trans DL.updL
   have eD3 : upd H2 L (.lst (ds.map V.ref ++ [V.ref c])) D = some (.dK kvs) := (AL DnL).trans eD2
   have d3 : A0 (upd H2 L (.lst (ds.map V.ref ++ [V.ref c]))) D gs := hd.copy eD eD3 fun _ _ e => k3.tup eD eL e
   have fin : ∀ H5, DL D L (upd H2 L (.lst (ds.map V.ref ++ [V.ref c]))) H5 → H5 L = some (.lst (ds.map V.ref ++ [V.ref c])) → A0 H5 D (Dc w gs past p x y) → Q V.non H5 := fun H5 k5 e5 d5 => by
    have k15 := k3.trans k5
    obtain ⟨kv5, _, eD5, _⟩ := d5.at_
    refine k H5 ⟨hb.dl eD eL hL k15, d5, ⟨ds ++ [c], by rw [zW]; exact e5, ?_, fun z => ?_⟩, hL⟩ (Kept.dl eD eL k15 ⟨_, eD5⟩ ⟨_, e5⟩)
    ·rw [D6 hw]
     exact Paired.snoc (Paired.dl pr hds eD eL k15) (hd.copy eD (k5 c _ cD cL ((AL cL).trans e2)) fun _ _ e => k15.tup eD eL e)
    ·rcases zb.mp z with z | z
     ·exact hds z
     ·exact cD (zK.mp z).symm
   by_cases h2 : w = "take"
   ·rw [if_pos (z8 h2)]
    rw [JZ h2] at hno
    unfold Gg at hno
    have hp : p ∈ AT gs := by
     by_cases z : p ∈ AT gs
     ·exact z
     ·rw [if_neg z] at hno; cases hno
    obtain ⟨gg, hgg, hgp⟩ := zf.mp hp
    subst hgp
    obtain ⟨kv, a, z1, z2, z3⟩ := d3.pop hgg
    refine ⟨d3.isD, kv, z1, .inl gg.p, rfl, ⟨_, z2⟩, fin _ DL.updD ((AL DnL.symm).trans AN) ?_⟩
    rw [NU h2]
    exact z3
   ·rw [if_neg (fun z => h2 (z6 z))]
    have e13 := k3.trans (DL.of (AI.refl _))
    have eg : upd H2 L (.lst (ds.map V.ref ++ [V.ref c])) g = some (.tup [.int p, .int (BI w gs p x y).1, .int (BI w gs p x y).2]) := (AL (BQ (s2.get e1) eL2 fun z => by cases z)).trans (s2.get e1)
    refine ⟨_, SqT.of eg, _, rfl, _, SqT.of eg, _, rfl, by decide, fun t H4 n4 s4 e4 => ?_⟩
    obtain ⟨kv, kv', z1, z2, z3⟩ := (d3.same s4).dput (x := p) sd e4
    refine ⟨_, z2, fin _ ((DL.of s4).trans DL.updD) ((AL DnL.symm).trans (s4.get AN)) ?_⟩
    rw [FA hw h2]
    exact z3
theorem FN : AR ["_law_beach", "_law_stands", "_law_past", "_law_deed_here", "_law_due", "_law_gate", "_law_good", "_law_told"] ["_law_beach", "_law_stands", "_law_past", "_law_deed_here"] (AG Nw) := by walk_at "SC"
noncomputable def Tf {K : W.Frag} {mg : Str → Option Value} (T : Tx K mg) : Sp := fun vs H Q _ => ∃ (b S P : Addr) (ow : List Addr) (gs : List G) (past : List (List G)) (D L q : Addr) (w : Str) (p x y : Int), vs = [.ref b, .ref D, .ref L, .ref q] ∧ SqT K H q [.str w, .int p, .int x, .int y] ∧ Wd T.AQ H b S P ow gs past D L ∧ Wrd w ∧ ∀ H' S' P' ow', Wd T.AQ H' b S' P' ow' (aft w gs past p x y).1 (aft w gs past p x y).2 D L → Kept (L :: ow) H H' (L :: ow') → Q (.bl true) H'
theorem Lc (T : Tx K mg) : Af P w K mg base CX0 5 T.Ra T.Oz ["_law_beach", "_law_stands", "_law_past", "_law_deed_here"] (Tf T) := by
 refine T.Jy.F.ok FN (fun _ _ _ _ h => by walk_at "LN") ?_
 ·walk_at "I2"
  obtain ⟨b, S, P, ow, gs, past, D, L, q, w, p, x, y, rfl, hq, hw, wd, k⟩ := h
  refine ⟨_, (AD (pst 4 FN (pcl T.MA (Po T) hr AW (AA (pv 1) (AA (pv 2) (AA (pv 3) AC)))))
   (AD (pst 5 FN (pcl T.Hx (Jo T) hr AW (AA (pv 1) (AA (pv 3) AC))))
   (AD (Gy (pcl T.RA (UA T) hr AW (AA (pv 0) (AA (pv 3) AC))) (af (n := 2) rfl (Ai (pgn 6 FN) (Ai (pgn 7 FN) C4))))
   (AD (AY (ptc GK (pv 6) (pec Au (pv 4) AV)) (AE (AK BP))
    AO)
   (AD (AY (ptc GK (pv 4) AV) (AE (AK (pec Au (pv 7) (pv 4))))
    AO)
   (AD (Av (pcl T.RG (Ti T) hr AW (AA (pv 1) (AA (pv 2) (AA (pv 3) AC)))))
   (AD (AY (ptc Au (pxi AS (pv 3) AB) AV) (AE (AK (Nh (pcl T.K4 (M8 T) hr AW (AA (pv 7) AC)) (Pr (pec Au (pv 7) (AH AJ (by rfl) T.Am Ac (AA (pv 2) AC)))))))
    AO)
   (AE (AK (pcl T.Hj (Kg T) hr AW (AA (pv 7) (AA (pv 5) AC)))))))))))), ?_⟩
  walk_at "RD"
  refine ⟨b, S, P, ow, gs, past, D, L, q, w, p, x, y, rfl, hq, hw, wd, fun H1 s1 => ?_⟩
  refine ⟨D, q, w, p, x, y, gs, rfl, s1.tup hq, hw.dk.same s1, fun g H2 n2 s2 e2 => ?_⟩
  have s12 := s1.trans s2
  have hw2 := hw.same s12
  refine ⟨b, S, P, ow, gs, past, q, w, p, x, y, rfl, s12.tup hq, hw2.bch, wd, fun e he Dn H3 n3 s3 e3 => ?_, fun hno Dn H3 S' P' ow' v n3 kp hb' ho lv nf e3 hv1 hv2 => ?_⟩
  ·rw [he]
   walk_at "RD"
   have h0 : decide (Uy (some e) = Str.ofString "") = false := za WF
   refine ⟨_, SqL.of e3, rfl, _, _, rfl, _, _, rfl, rfl, rfl, ?_⟩
   rw [h0, if_neg (by simp), if_pos (show (!false) = true from rfl)]
   refine ⟨rfl, ?_⟩
   rw [z8 (show V.str (V7 e) = V.str (Uy (some e)) from rfl)]
   have s13 := s12.trans s3
   exact k H3 S P ow (by rw [Pw he]; exact hw.same s13) (Kept.of s13)
  ·rw [hno]
   walk_at "RD"
   have h0 : decide (Uy none = Str.ofString "") = true := z8 rfl
   refine ⟨_, SqL.of e3, rfl, _, _, rfl, _, _, rfl, rfl, rfl, ?_⟩
   rw [h0, if_neg (by simp), if_neg (by simp)]
   obtain ⟨dD, lD, hLo⟩ := hw2.deed kp hb' ho
   have q3 := hw2.bch.sqt kp (s12.tup hq)
   refine ⟨b, S', P', ow', gs, gs, past, past, D, L, q, w, p, x, y, rfl, q3, hb', hw.bch.std, hw.bch.len, dD, lD, hLo, wd, hno, fun H4 wd4 kt4 => ?_⟩
   have kt : Kept (L :: ow) H H4 (L :: ow') := (Kept.of s12).trans ((Kept.kp hw2.bch kp hb' ho lv).cons.trans kt4)
   have fin : Q (.bl true) H4 := k H4 S' P' ow' (by rw [P5 hno]; exact wd4) kt
   refine ⟨_, kt4.sqt q3, _, rfl, rfl, ?_⟩
   by_cases hback : w = "back"
   ·rw [if_pos (z8 (by rw [hback])), hv1 hback]
    obtain ⟨xs, eL4, lL4⟩ := wd4.plen
    delta Jf
    refine ⟨⟨_, rfl⟩, _, .inl (SqL.of eL4), ?_⟩
    rw [lL4, z8 rfl]
    exact fin
   ·rw [if_neg (fun z => hback (V.str.inj (z6 z)))]
    obtain ⟨t, rfl, et⟩ := hv2 hback
    exact ⟨t, g, [p, (BI w gs p x y).1, (BI w gs p x y).2], rfl, kt4.tup _ _ et, SqT.of (kt4.tup _ _ (hw2.bch.tup kp e2)), by simp only [zE, zP]; lia, fin⟩
theorem RL : AR ["_law_script", "_law_cell"] ["_law_script"] (AG QS) := by walk_at "SC"
noncomputable def Ms (K : W.Frag) : Sp := fun vs H Q _ => ∃ (a : Addr) (ns : List Int), vs = [.ref a] ∧ SqL K H a (ns.map V.int) ∧ ∀ H' v, AI H H' → Q (.int v) H'
theorem RT (T : Tx K mg) : Af P w K mg base CX0 2 T.TU T.RV ["_law_script"] (Ms K) := by
 refine T.P4.F.ok RL (fun _ _ _ _ h => by walk_at "LN") ?_
 ·walk_at "I2"
  obtain ⟨a, ns, rfl, hS, k⟩ := h
  refine ⟨_, (AD (pst 1 RL (pcl T.Jr (IC T) hr AW (AA (pv 0) (AA AB AC))))
   (AE (AK (pxi AM (pcl T.Ck (DD T) hr AW (AA (pv 1) (AA AB (AA (pec Au (AF AX (pv 1) AB) AB) AC)))) AB)))), ?_⟩
  delta Hz DE
  refine ⟨ns, hS, ⟨_, rfl⟩, ⟨_, rfl⟩, fun D H1 xs n1 s1 e1 l1 => ?_⟩
  exact ⟨_, SqL.of e1, _, A2 (by lia) (by lia), k _ _ s1⟩
theorem Cw : AR ["_law_beach", "_law_stands", "_law_past", "_law_script", "_law_most", "_law_how_here", "_law_many", "_law_place", "_law_foot", "_law_head", "_law_count"] ["_law_beach", "_law_stands", "_law_past", "_law_script", "_law_most"] (AG NI) := by walk_at "SC"
noncomputable def UX {K : W.Frag} {mg : Str → Option Value} (T : Tx K mg) : Sp := fun vs H Q _ => ∃ (b S0 P0 D L a : Addr) (ns : List Int) (most : Int), vs = [.ref b, .ref D, .ref L, .ref a, .int most] ∧ Scr K [L, S0, P0] H a (ns.map V.int) ∧ Wd T.AQ H b S0 P0 [S0, P0] [] [] D L ∧ 0 ≤ most ∧ most ≤ 40 ∧ ∀ (H' : Hp) (S P : Addr) (ow : List Addr) (gs : List G) (past : List (List G)), Kept [L, S0, P0] H H' (L :: ow) → Wd T.AQ H' b S P ow gs past D L → Q (.bl true) H'
theorem UY (T : Tx K mg) : Af P w K mg base CX0 6 T.RZ T.O5 ["_law_beach", "_law_stands", "_law_past", "_law_script", "_law_most"] (UX T) := by
 refine T.Qe.F.ok Cw (fun _ _ _ _ h => by walk_at "LN") ?_
 ·walk_at "I2"
  obtain ⟨b, S0, P0, D, L, a, ns, most, rfl, sc, hw, m0, m1, k⟩ := h
  refine ⟨_, (AD (pst 5 Cw (AF BM (pcl T.P4 (RT T) hr AW (AA (pv 3) AC)) AB))
   (AD (pst 6 Cw (pxi AM (Ae (AA (AF AX (AF BM (pv 5) AB) (AF Ag (pv 4) AB)) (AA AB (AA (AF AX (AF BM (pv 5) AB) AB) (AA (pv 4) AC))))) (AF AX (pv 5) AB)))
   (AD (BO PassesOwn.never rfl (B4 (pcl T.O3 (Rw T) hr AW (AA (pv 3) (AA AB (AA (pv 6) AC))))) (Fx (n := 3) rfl (Ai (pgn 7 Cw) (Ai (pgn 8 Cw) (Ai (pgn 9 Cw) C4))))
    (AE (AY (Cm (Bb (pcl T.Jy (Lc T) hr AW (AA (pv 0) (AA (pv 1) (AA (pv 2) (AA (AZ (AA AV (AA (pv 7) (AA (pv 8) (AA (pv 9) AC))))) AC))))))) (AE (AK BP))
      AO)))
   (BB (AY (E4 (ptc Au (AF AX (AF BM (pv 5) AB) AB) AB) (C8 (ptc DI (pv 6) AB))).pt (AE (BO PassesOwn.never rfl (Bo (by rfl) T.B8 (AA (AF Aa (AF Ag AB (AF AX (AF BM (pv 5) AB) AB)) (pv 6)) AC)) (pgn 10 Cw)
      (AE (AY (Cm (Bb (pcl T.Jy (Lc T) hr AW (AA (pv 0) (AA (pv 1) (AA (pv 2) (AA (AZ (AA AV (AA (pxi AM (AH (Dl (by rfl)) (by rfl) T.Bw BW (AA (pv 1) AC)) AB) (AA AB (AA AB AC))))) AC))))))) (AE (AK BP))
        AO))))
    AO)
   (AE (AK BP)))))), ?_⟩
  walk_at "Q"
  delta Ms
  refine ⟨⟨_, sc.sq⟩, fun H1 v s1 => ?_⟩
  walk_at "NX"
  walk_at "Q"
  walk_at "RD"
  refine ⟨by lia, by decide, fun z H2 n2 s2 e2 => ?_⟩
  obtain ⟨m, hm, hm0, hm1⟩ : ∃ m : Int, atI [V.int (v / 40 / 4 % (most + 1)), V.int 0, V.int (v / 40 / 4 % 8), V.int most] (v / 40 % 4) = some (V.int m) ∧ 0 ≤ m ∧ m ≤ 40 := by
   obtain ⟨m, hm, h⟩ := atL4 (x := v / 40 / 4 % (most + 1)) (y := 0) (z := v / 40 / 4 % 8) (t := most) (e := v / 40 % 4) (by lia) (by lia)
   have q1 := Int.emod_nonneg (v / 40 / 4) (show most + 1 ≠ 0 by lia)
   have q2 := Int.emod_lt_of_pos (v / 40 / 4) (show 0 < most + 1 by lia)
   exact ⟨m, hm, by lia, by lia⟩
  have s12 := s1.trans s2
  have hw2 := hw.same s12
  have lv2 : ∀ c ∈ [L, S0, P0], ∃ u, H2 c = some u := fun c hc => by
   simp at hc
   rcases hc with rfl | rfl | rfl
   ·obtain ⟨xs, e, _⟩ := hw2.plen
    exact ⟨_, e⟩
   ·exact (let ⟨_, z⟩ := hw2.bch.lv c (by simp); ⟨_, z⟩)
   ·exact (let ⟨_, z⟩ := hw2.bch.lv c (by simp); ⟨_, z⟩)
  refine ⟨_, SqL.of e2, _, hm, ?_⟩
  walk_at "NX"
  refine ⟨_, rfl, _, rfl, a, 1, m, ns, rfl, s12.seq sc.sq, by decide, by decide, hm0, by lia, fun GL H3 as gs nG s3 eG ga lg ok nd => ⟨GL, rfl, ⟨_, SqL.of eG⟩, ?_⟩⟩
  have oG : GL ∉ [L, S0, P0] := fun z => by
   obtain ⟨u, hu⟩ := lv2 GL z
   rw [nG] at hu; cases hu
  have s13 := s12.trans s3
  have k03 : Kept [L, S0, P0] H H3 [L, S0, P0] := Kept.of s13
  have las := ga.len
  refine HF (xs := as.map V.ref) (fun i σ H' => ∃ (o7 o8 o9 : Option V) (S P : Addr) (ow : List Addr) (G0 : List G) (past : List (List G)), σ = [some (.ref b), some (.ref D), some (.ref L), some (.ref a), some (.int most), some (.int (v / 40)), some (.int m), o7, o8, o9, none] ∧ Kept [L, S0, P0] H3 H' (L :: ow) ∧ Wd T.AQ H' b S P ow G0 past D L ∧ G0.Perm (gs.take i) ∧ past.length = i) ⟨none, none, none, S0, P0, _, [], [], rfl, Kept.refl, hw.same s13, zx _, rfl⟩ (fun _ _ _ _ zq => by obtain ⟨_, _, _, _, _, _, _, _, _, kt, _⟩ := zq; exact SqL.of (kt.lst _ _ oG eG)) ?_ ?_
  ·rintro i v' σ H4 hx ⟨o7, o8, o9, S, P, ow, G0, past, rfl, kt, hw4, pm, hpl⟩
   have hi : i < gs.length := by
    have := (zA.mp hx).1
    rw [z5] at this
    lia
   obtain ⟨ai, hai, ti'⟩ := ga.get (z4 hi)
   have ex : v' = V.ref ai := by
    rw [zJ, hai] at hx
    exact (zN hx).symm
   subst ex
   have ti := kt.tup _ _ ti'
   obtain ⟨fp1, fp2⟩ := Vq pm hi nd (by lia) ok (past := past) (by lia)
   generalize gs[i] = g at *
   delta K7 FW LV
   refine ⟨_, SqT.of ti, rfl, _, _, rfl, _, _, rfl, _, _, rfl, rfl, by decide, fun q H5 n5 s5 e5 => ?_⟩
   have fp1' := (Lh (w := "put") rfl).trans fp1
   refine ⟨b, S, P, ow, G0, past, D, L, q, "put", g.p, g.f, g.h, rfl, SqT.of e5, hw4.same s5, .put rfl, fun H6 S' P' ow' hw6 kt6 => ⟨true, rfl, ?_⟩⟩
   rw [P5 fp1', FA (by decide) (by decide), D6 (by decide), LI rfl] at hw6
   rw [if_neg (by simp)]
   exact ⟨⟨_, rfl⟩, ⟨_, rfl⟩, ⟨_, rfl⟩, S', P', ow', (kt.same s5).trans kt6, _, _, hw6, fp2, by rw [zC, hpl]; rfl⟩
  rintro σ H4 ⟨o7, o8, o9, S, P, ow, G0, past, rfl, kt, hw4, pm, hpl⟩
  rw [z5, las, zl] at pm
  refine ⟨fun σ' H' => ∃ (o10 : Option V) (S P : Addr) (ow : List Addr) (G0 : List G) (past : List (List G)), σ' = [some (.ref b), some (.ref D), some (.ref L), some (.ref a), some (.int most), some (.int (v / 40)), some (.int m), o7, o8, o9, o10] ∧ Kept [L, S0, P0] H3 H' (L :: ow) ∧ Wd T.AQ H' b S P ow G0 past D L, ?_, ?_⟩
  ·walk_at "RD"
   by_cases hc : v / 40 / 4 % 9 = 1
   ·rw [if_pos (z8 hc)]
    by_cases hc2 : 0 < m
    ·rw [if_pos (z8 hc2)]
     have hne : G0 ≠ [] := fun z => by
      rw [z] at pm
      have := pm.length_eq
      simp at this
      lia
     refine ⟨_, rfl, _, _, rfl, rfl, (show (0 : Int) < 36 ∧ (36 : Int) < 1073741824 by decide), _, _, rfl, rfl, (show (0 : Int) < 11 by decide), _, _, rfl, rfl, _, rfl, _, _, rfl, rfl, _, rfl, by lia, by lia, BK (fun i σ H' => ∃ (o10 : Option V) (S P : Addr) (ow : List Addr) (G0 : List G) (past : List (List G)), σ = [some (.ref b), some (.ref D), some (.ref L), some (.ref a), some (.int most), some (.int (v / 40)), some (.int m), o7, o8, o9, o10] ∧ Kept [L, S0, P0] H3 H' (L :: ow) ∧ Wd T.AQ H' b S P ow G0 past D L ∧ G0 ≠ []) ⟨none, S, P, ow, G0, past, rfl, kt, hw4, hne⟩ ?_ ?_⟩
     ·rintro i σ H5 hi ⟨o10, S, P, ow, G0, past, rfl, kt, hw5, hne⟩
      obtain ⟨kvs, ks, eD, e2, lk, lkv, l64⟩ := Y3 (K := K) hw5.dk hw5.bch.std.len
      have hpos : 0 < G0.length := List.length_pos_iff.mpr hne
      delta NK
      refine ⟨kvs, eD, ks, e2, l64, fun Ds Hs ks' ns' ss es pm' so => ?_⟩
      have lks := pm'.length_eq
      refine ⟨_, SqL.of es, _, A2 (by lia) (by lia), by decide, fun q H6 n6 s6 e6 => ?_⟩
      refine ⟨b, S, P, ow, G0, past, D, L, q, "lift", _, 0, 0, rfl, SqT.of e6, hw5.same (ss.trans s6), .lift rfl, fun H7 S' P' ow' hw7 kt7 => ⟨true, rfl, ?_⟩⟩
      rw [if_neg (by simp)]
      exact ⟨⟨_, rfl⟩, S', P', ow', ((kt.same ss).same s6).trans kt7, _, ⟨_, hw7⟩, Vu hne⟩
     ·rintro σ H5 ⟨o10, S, P, ow, G0, past, rfl, kt, hw5, hne⟩
      exact ⟨⟨_, rfl⟩, S, P, ow, kt, _, _, hw5⟩
    ·rw [if_neg (fun z => hc2 (z6 z))]
     exact ⟨⟨_, rfl⟩, S, P, ow, kt, _, _, hw4⟩
   ·rw [if_neg (fun z => hc (z6 z))]
    exact ⟨⟨_, rfl⟩, S, P, ow, kt, _, _, hw4⟩
  rintro σ' H5 ⟨o10, S, P, ow, G0, past, rfl, kt, hw5⟩
  walk_at "RD"
  exact k H5 S P ow G0 past (k03.trans kt) hw5
theorem UK : AR ["_law_draw"] ["_law_draw"] (AG No) := by walk_at "SC"
noncomputable def Fc (K : W.Frag) : Sp := fun vs H Q _ => ∃ d : Int, vs = [.int d] ∧ ∀ H' v, AI H H' → Q (.int v) H'
theorem IE (T : Tx K mg) : Af P w K mg base CX0 1 T.Qc T.PZ ["_law_draw"] (Fc K) := by
 refine T.HE.F.ok UK (fun _ _ _ _ h => by walk_at "LN") ?_
 ·walk_at "I2"
  obtain ⟨d, rfl, k⟩ := h
  refine ⟨_, (AE (AK (pxi AM (Ae (AA (Ci Bp AB) (AA (Ci Bp AB) (AA (Ci Bp AB) (AA AB (AA AB (AA AB (AA AB (AA (AF SA AB AB) (AA (Ci Bp (AF SA AB AB)) AC)))))))))) (AF AX (pv 0) AB)))), ?_⟩
  walk_at "RD"
  refine ⟨by decide, fun D H1 n1 s1 e1 => ?_⟩
  exact ⟨_, SqL.of e1, _, A2 (xs := [-1001, -1000, -999, 0, 999, 1000, 1001, 1000000000000000000000000000000, -1000000000000000000000000000000]) (by lia) (by simp only [zE, zP]; lia), k _ _ s1⟩
theorem Ay : AR ["_law_script", "_law_k", "_law_stands", "_law_past", "_law_how_here", "_law_mixed", "_law_row", "_law_word", "_law_pool", "_law_place", "_law_many", "_law_kind", "_law_one", "_law_two", "_law_line", "_law_any_two", "_law_foot", "_law_head"] ["_law_script", "_law_k", "_law_stands", "_law_past"] (AG Nn) := by walk_at "SC"
theorem deedW {e : Int} (h1 : 0 ≤ e) (h2 : e < 7) : ∃ w, atI [V.str "put", V.str "put", V.str "put", V.str "lift", V.str "sink", V.str "take", V.str "back"] e = some (V.str w) ∧ Wrd w := by
 rcases (show e = 0 ∨ e = 1 ∨ e = 2 ∨ e = 3 ∨ e = 4 ∨ e = 5 ∨ e = 6 by lia) with rfl | rfl | rfl | rfl | rfl | rfl | rfl
 ·exact ⟨_, rfl, .put rfl⟩
 ·exact ⟨_, rfl, .put rfl⟩
 ·exact ⟨_, rfl, .put rfl⟩
 ·exact ⟨_, rfl, .lift rfl⟩
 ·exact ⟨_, rfl, .sink rfl⟩
 ·exact ⟨_, rfl, .take rfl⟩
 ·exact ⟨_, rfl, .back rfl⟩
noncomputable def T7 (K : W.Frag) : Sp := fun vs H Q _ => ∃ (a : Addr) (k : Int) (ns : List Int) (D L : Addr) (gs : List G) (xs : List V), vs = [.ref a, .int k, .ref D, .ref L] ∧ SqL K H a (ns.map V.int) ∧ 0 ≤ k ∧ k < ns.length ∧ ns.length ≤ 63 ∧ A0 H D gs ∧ gs.length ≤ 40 ∧ H L = some (.lst xs) ∧ ∀ (D : Addr) (H' : Hp) (w : Str) (p x y : Int), H D = none → AI H H' → H' D = some (.tup [.str w, .int p, .int x, .int y]) → Wrd w → Q (.ref D) H'
theorem Ub (T : Tx K mg) : Af P w K mg base CX0 3 T.RE T.Op ["_law_script", "_law_k", "_law_stands", "_law_past"] (T7 K) := by
 refine T.Q4.F.ok Ay (fun _ _ _ _ h => by walk_at "LN") ?_
 ·walk_at "I2"
  obtain ⟨a, k0, ns, D, L, gs, xs, rfl, hS, h0, h1, h63, hd, l40, eL, k⟩ := h
  refine ⟨_, (AD (pst 4 Ay (pcl T.P4 (RT T) hr AW (AA (pv 0) AC)))
   (AD (pst 5 Ay (pec Au (AF AX (pxi AM (pv 0) AB) AB) AB))
   (AD (pst 6 Ay (pcl T.Ck (DD T) hr AW (AA (pxi AM (Ae (AA (pxi AM (pv 0) (pv 1)) (AA (AF Ag (pxi AM (pv 0) (pv 1)) (AF Jq AB (pv 1))) AC))) (CO Pe (by rfl) T.RJ Ng (AA (pv 5) AC))) (AA AB (AA (pv 5) AC)))))
   (BB (pst 7 Ay (pxi AM (Ae (AA AV (AA AV (AA AV (AA AV (AA AV (AA AV (AA AV AC)))))))) (AF AX (pxi AM (pv 6) AB) AB)))
   (AD (pst 8 Ay (pxi AM (Ae (AA AB (AA AB (AA AB (AA AB AC))))) (AF AX (AF BM (pv 4) AB) AB)))
   (AD (pst 9 Ay (AF Aa (AF AX (pxi AM (pv 6) AB) (pv 8)) (AF BM (pv 8) AB)))
   (BB (AY (E4 (ptc Au (AF AX (pxi AM (pv 6) AB) AB) AB) (C8 (ptc DI (AH IK (by rfl) T.Am Ac (AA (pv 2) AC)) AB))).pt (AE (pst 9 Ay (pxi AM (AH (Dl (by rfl)) (by rfl) T.Bw BW (AA (pv 2) AC)) (AF AX (pxi AM (pv 6) AB) (AH IK (by rfl) T.Am Ac (AA (pv 2) AC))))))
    AO)
   (AD (AY (ptc Au (pv 7) AV) (AD (pst 10 Ay (pxi AM (Ae (AA AB (AA AB (AA (AF Ag AB (AF AX (pxi AM (pv 6) AB) AB)) (AA (AH AJ (by rfl) T.Am Ac (AA (pv 3) AC)) (AA (AF Ag (AH AJ (by rfl) T.Am Ac (AA (pv 3) AC)) AB) (AA AB (AA (Ci Bp AB) (AA (AF SA AB AB) AC))))))))) (AF AX (pxi AM (pv 6) AB) AB)))
     (AE (AK (AZ (AA (pv 7) (AA (pv 10) (AA (AF AX (pxi AM (pv 6) AB) AB) (AA AB AC))))))))
    AO)
   (BB (pst 11 Ay (AF AX (AF BM (pxi AM (pv 6) AB) AB) AB))
   (AD (AY (ptc GK (pv 7) AV) (BB (pst 12 Ay (pxi AM (Ae (AA (AF Aa (AF AX (pxi AM (pv 6) AB) AB) AB) (AA (AF Aa (AF AX (pxi AM (pv 6) AB) AB) AB) (AA AB (AA (AF Aa (AF AX (pxi AM (pv 6) AB) AB) AB) (AA (pcl T.HE (IE T) hr AW (AA (pxi AM (pv 6) AB) AC)) (AA AB AC))))))) (pv 11)))
     (AD (pst 13 Ay (pxi AM (Ae (AA (pv 12) (AA (AF Aa (AF AX (pxi AM (pv 6) AB) AB) AB) (AA (AF AX (pxi AM (pv 6) AB) AB) (AA (AF Aa (AF AX (pxi AM (pv 6) AB) AB) AB) (AA (pcl T.HE (IE T) hr AW (AA (pxi AM (pv 6) AB) AC)) (AA AB AC))))))) (pv 11)))
     (AE (AK (AZ (AA (pv 7) (AA (pv 9) (AA (pv 12) (AA (pv 13) AC)))))))))
    AO)
   (AD (pst 14 Ay (AF Jq (pv 9) (AF Aa (AF AX (AF BM (pv 4) AB) AB) AB)))
   (BB (pst 15 Ay (Ae (AA (AF Aa (AF AX (pxi AM (pv 6) AB) AB) AB) (AA (AF Aa (AF AX (pxi AM (pv 6) AB) AB) AB) AC))))
   (BB (pst 16 Ay (pxi AM (Ae (AA (pxi AM (pv 15) AB) (AA (AF Aa (AF AX (pxi AM (pv 6) AB) AB) AB) (AA (AF Aa (pv 14) (AF AX (pxi AM (pv 6) AB) AB)) (AA (pv 14) (AA (pcl T.HE (IE T) hr AW (AA (pxi AM (pv 6) AB) AC)) (AA (pxi AM (pv 15) AB) AC))))))) (pv 11)))
   (AD (pst 17 Ay (pxi AM (Ae (AA (AF Aa (AF Ag (pv 16) (AF AX (pxi AM (pv 6) AB) AB)) AB) (AA (AF Aa (AF Ag (pv 16) (AF AX (pxi AM (pv 6) AB) AB)) AB) (AA (AF Ag (pv 14) (AF AX (pxi AM (pv 6) AB) AB)) (AA (pv 14) (AA (pcl T.HE (IE T) hr AW (AA (pxi AM (pv 6) AB) AC)) (AA (pxi AM (pv 15) AB) AC))))))) (pv 11)))
   (AE (AK (AZ (AA (pv 7) (AA (pv 9) (AA (pv 16) (AA (pv 17) AC))))))))))))))))))))), ?_⟩
  walk_at "Q"
  delta Ms
  refine ⟨⟨_, hS⟩, fun H1 v s1 => ?_⟩
  walk_at "NX"
  have hS1 := s1.seq hS
  have hn : 0 < ns.length := by lia
  walk_at "Q"
  walk_at "RD"
  refine ⟨_, hS1, _, A2 (by lia) (by lia), _, rfl, ?_⟩
  walk_at "NX"
  generalize ns.getD (Int.toNat 0) 0 = c0 at *
  generalize decide (c0 % 2 = 0) = mx at *
  walk_at "Q"
  walk_at "RD"
  refine ⟨_, hS1, _, A2 (by lia) (by lia), _, hS1, _, A2 (by lia) (by lia), _, rfl, by decide, fun z1 H2 n2 s2 e2 => ?_⟩
  generalize ns.getD k0.toNat 0 = ck at *
  refine ⟨_, SqL.of e2, _, A2 (xs := [ck, ck + 977 * k0]) (by split <;> lia) (by simp only [zE, zP]; split <;> lia), ?_⟩
  refine ⟨_, 5, _, rfl, by decide, by decide, fun R H3 rs n3 s3 e3 l3 => ?_⟩
  walk_at "NX"
  have s13 := s1.trans (s2.trans s3)
  refine ⟨fun σ' H' => ∃ w, σ' = [some (.ref a), some (.int k0), some (.ref D), some (.ref L), some (.int v), some (.bl mx), some (.ref R), some (.str w), none, none, none, none, none, none, none, none, none, none] ∧ AI H3 H' ∧ Wrd w, ?_, ?_⟩
  ·walk_at "RD"
   refine ⟨by decide, fun z2 H4 n4 s4 e4 => ?_⟩
   obtain ⟨w, hw, wd⟩ := deedW (e := rs.getD 0 0 % 7) (by lia) (by lia)
   exact ⟨_, SqL.of (s4.get e3), _, A2 (by lia) (by lia), _, rfl, _, SqL.of e4, _, hw, _, rfl, s4, wd⟩
  rintro σ' H4 ⟨w, rfl, s4, wd⟩
  have s14 := s13.trans s4
  have e34 := s4.get e3
  clear s1 s2 s3 s4 s13 e2 e3 n2 n3
  walk_at "Q"
  walk_at "RD"
  refine ⟨by decide, fun z3 H5 n5 s5 e5 => ?_⟩
  obtain ⟨pool, hpool, hp2⟩ := atL4 (x := 5) (y := 13) (z := 45) (t := 2003) (e := v / 2 % 4) (by lia) (by lia)
  have hp3 : 0 < pool := by lia
  have e35 := s5.get e34
  refine ⟨_, SqL.of e5, _, hpool, ?_⟩
  walk_at "NX"
  walk_at "Q"
  walk_at "RD"
  refine ⟨_, SqL.of e35, _, A2 (by lia) (by lia), _, rfl, by lia, ?_⟩
  walk_at "NX"
  refine ⟨fun σ' H' => ∃ pl : Int, σ' = [some (.ref a), some (.int k0), some (.ref D), some (.ref L), some (.int v), some (.bl mx), some (.ref R), some (.str w), some (.int pool), some (.int pl), none, none, none, none, none, none, none, none] ∧ AI H5 H', ?_, ?_⟩
  ·delta NK
   have hd5 := hd.same (s14.trans s5)
   obtain ⟨kvs, ks, eD, e2, pm, _⟩ := hd5.at_
   have lk := pm.length_eq
   rw [z5] at lk
   have lkv : kvs.length = ks.length := by have := congrArg List.length e2; simpa using this
   refine ⟨_, SqL.of e35, _, A2 (by lia) (by lia), _, rfl, ?_⟩
   by_cases hc : rs.getD (Int.toNat 4) 0 % 2 = 1
   ·rw [if_pos (z8 hc)]
    refine ⟨kvs, eD, ?_⟩
    by_cases h0 : 0 < kvs.length
    ·rw [if_pos (z8 (by lia))]
     refine ⟨kvs, eD, ks, e2, by lia, fun Ds Hs ks' ns' ss es pm' so => ?_⟩
     have lks := pm'.length_eq
     have q1 := Int.emod_nonneg (rs.getD (Int.toNat 1) 0) (show (kvs.length : Int) ≠ 0 by lia)
     have q2 := Int.emod_lt_of_pos (rs.getD (Int.toNat 1) 0) (show (0 : Int) < kvs.length by lia)
     exact ⟨_, SqL.of (ss.get e35), _, A2 (by lia) (by lia), kvs, ss.get eD, _, rfl, by lia, _, SqL.of es, _, A2 q1 (by lia), ⟨_, rfl⟩, ss⟩
    ·rw [if_neg (fun z => h0 (by have := z6 z; lia))]
     exact ⟨⟨_, rfl⟩, AI.refl _⟩
   ·rw [if_neg (fun z => hc (z6 z))]
    exact ⟨⟨_, rfl⟩, AI.refl _⟩
  rintro σ' H6 ⟨pl, rfl, s6⟩
  have s16 := s14.trans (s5.trans s6)
  have e36 := s6.get e35
  have eL6 := s16.get eL
  clear s14 s5 s6 e34 e35 e5 n5
  walk_at "Q"
  walk_at "RD"
  by_cases hb : w = "back"
  ·rw [if_pos (z8 hb)]
   refine ⟨_, SqL.of e36, _, A2 (by lia) (by lia), _, rfl, _, .inl (SqL.of eL6), _, .inl (SqL.of eL6), by decide, fun z7 H7 n7 s7 e7 => ?_⟩
   have e37 := s7.get e36
   refine ⟨_, SqL.of e37, _, A2 (by lia) (by lia), _, rfl, _, SqL.of e7, Qm rfl (by lia) (by simp only [zE, zP]; lia) fun m => ?_⟩
   exact ⟨_, SqL.of e37, _, A2 (by lia) (by lia), _, rfl, by decide, fun D8 H8 n8 s8 e8 => k D8 H8 w _ _ _ (s16.free (s7.free n8)) (s16.trans (s7.trans s8)) e8 wd⟩
  rw [if_neg (fun z => hb (z6 z))]
  walk_at "NX"
  refine ⟨fun σ' H' => ∃ kd : Int, σ' = [some (.ref a), some (.int k0), some (.ref D), some (.ref L), some (.int v), some (.bl mx), some (.ref R), some (.str w), some (.int pool), some (.int pl), none, some (.int kd), none, none, none, none, none, none] ∧ H' = H6 ∧ 0 ≤ kd ∧ kd < 6, ?_, ?_⟩
  ·walk_at "RD"
   exact ⟨_, SqL.of e36, _, A2 (by lia) (by lia), _, rfl, by lia, by lia⟩
  rintro σ' H7 ⟨kd, rfl, rfl, k0', k6⟩
  walk_at "Q"
  walk_at "RD"
  by_cases hp : w = "put"
  ·rw [if_neg (by simp [hp])]
   walk_at "NX"
   walk_at "RD"
   refine ⟨.inr ⟨by lia, by lia⟩, ?_⟩
   generalize pl * (v / 8 % 5 - 2) = ln at *
   refine ⟨fun σ' H' => ∃ A u1 u2, σ' = [some (.ref a), some (.int k0), some (.ref D), some (.ref L), some (.int v), some (.bl mx), some (.ref R), some (.str w), some (.int pool), some (.int pl), none, some (.int kd), none, none, some (.int ln), some (.ref A), none, none] ∧ AI H7 H' ∧ H' A = some (.lst [.int u1, .int u2]), ?_, ?_⟩
   ·walk_at "RD"
    walk_at "AUTO"
    exact ⟨_, _, he⟩
   rintro σ' H8 ⟨A, u1, u2, rfl, s8, e8⟩
   have e38 := s8.get e36
   refine ⟨fun σ' H' => ∃ ft : Int, σ' = [some (.ref a), some (.int k0), some (.ref D), some (.ref L), some (.int v), some (.bl mx), some (.ref R), some (.str w), some (.int pool), some (.int pl), none, some (.int kd), none, none, some (.int ln), some (.ref A), some (.int ft), none] ∧ AI H8 H', ?_, ?_⟩
   ·delta Fc
    walk_at "AUTO"
    intro H' v s'
    exact ⟨_, SqL.of (s'.get e8), _, rfl, by decide, fun p H2 n2 s2 e2 => ⟨_, SqL.of e2, Qm rfl (by lia) (by simp only [zE, zP]; lia) fun i => ⟨⟨_, rfl⟩, s'.trans s2⟩⟩⟩
   rintro σ' H9 ⟨ft, rfl, s9⟩
   have e39 := s9.get e38
   have e89 := s9.get e8
   have s19 := s16.trans (s8.trans s9)
   delta Fc
   walk_at "AUTO"
   intro H' v s'
   exact ⟨_, SqL.of (s'.get e89), _, rfl, by decide, fun p H2 n2 s2 e2 => ⟨_, SqL.of e2, Qm rfl (by lia) (by simp only [zE, zP]; lia) fun i => ⟨by decide, fun D8 H8 n8 s8 e8 => k D8 H8 w _ _ _ (s19.free (s'.free (s2.free n8))) (s19.trans (s'.trans (s2.trans s8))) e8 wd⟩⟩⟩
  ·rw [if_pos (by simp [hp])]
   refine ⟨fun σ' H' => ∃ on : Int, σ' = [some (.ref a), some (.int k0), some (.ref D), some (.ref L), some (.int v), some (.bl mx), some (.ref R), some (.str w), some (.int pool), some (.int pl), none, some (.int kd), some (.int on), none, none, none, none, none] ∧ AI H7 H', ?_, ?_⟩
   ·delta Fc
    walk_at "AUTO"
    intro H' v s'
    exact ⟨by decide, fun p H2 n2 s2 e2 => ⟨_, SqL.of e2, Qm rfl (by lia) (by simp only [zE, zP]; lia) fun i => ⟨⟨_, rfl⟩, s'.trans s2⟩⟩⟩
   rintro σ' H9 ⟨ft, rfl, s9⟩
   have e39 := s9.get e36
   have s19 := s16.trans s9
   delta Fc
   walk_at "AUTO"
   intro H' v s'
   exact ⟨by decide, fun p H2 n2 s2 e2 => ⟨_, SqL.of e2, Qm rfl (by lia) (by simp only [zE, zP]; lia) fun i => ⟨by decide, fun D8 H8 n8 s8 e8 => k D8 H8 w _ _ _ (s19.free (s'.free (s2.free n8))) (s19.trans (s'.trans (s2.trans s8))) e8 wd⟩⟩⟩
theorem N7 : AR ["_law_stands"] ["_law_stands"] (AG GI) := by walk_at "SC"
noncomputable def OP (K : W.Frag) : Sp := fun vs H Q _ => ∃ (d : Addr) (gs : List G), vs = [.ref d] ∧ A0 H d gs ∧ Std gs ∧ ∀ D H' as, H D = none → AI H H' → H' D = some (.lst (as.map V.ref)) → Ak H' as gs → Q (.ref D) H'
theorem JJ (T : Tx K mg) : Af P w K mg base CX0 1 T.KS T.Io ["_law_stands"] (OP K) := by
 refine T.GH.F.ok N7 (fun _ _ _ _ h => by walk_at "LN") ?_
 ·walk_at "I2"
  obtain ⟨d, gs, rfl, hd, sd, k⟩ := h
  refine ⟨_, (AE (AK (F6 rfl (⟨rfl, by decide +kernel, by decide +kernel, by decide +kernel, rfl, by decide +kernel, by with_unfolding_all rfl, by rfl, by rfl, by rfl⟩ : BF _ _ "_law_place" ["_law_stands"] [0]) (B4 (AH (Dl (by rfl)) (by rfl) T.Bw BW (AA (pv 0) AC))) (fun _ _ _ _  => (AZ (AA (pv 0) (AA (Vt (Km (K := K) rfl) (TQ (hu) (pv 1) (pv 0) (fun _ _ => rfl)) AB (fun _ _ => rfl)) (AA (Vt (Km (K := K) rfl) (TQ (hu) (pv 1) (pv 0) (fun _ _ => rfl)) AB (fun _ _ => rfl)) AC))))) (fun _ _ _ _ => Fj)))), ?_⟩
  obtain ⟨kvs, ks, e, e2, pm, q⟩ := hd.at_
  delta KJ NK
  have lk := pm.length_eq
  rw [z5] at lk
  refine ⟨kvs, e, ks, e2, by have := sd.len; lia, fun D H1 ks' n1 s1 e1 pm' so => ⟨⟨_, SqL.of e1⟩, fun D2 n2 => ?_⟩⟩
  have ek : ks' = AT gs := Jp so (Ik sd.asc) (pm'.trans pm)
  subst ek
  refine Sa (SqL.of e1) n2 (by have := sd.len; lia) (fun g H2 R hg s2 hR => ?_) fun H2 as s2 e3 ga => k D2 H2 as (s1.free n2) (s1.trans s2) e3 ga
  obtain ⟨a, z1, z2⟩ := q g hg
  have z3 := s2.get (s1.get z2)
  have gt : Gk H2 d (V.int g.p) (some (.ref a)) := by
   have := Gk.k (H := H2) (k := .inl g.p) (s2.get (s1.get e))
   rw [z1] at this
   exact this
  delta HP qA
  refine ⟨_, gt, _, rfl, _, SqT.of z3, _, rfl, _, gt, _, rfl, _, SqT.of z3, _, rfl, by decide, hR⟩
theorem Ol : AR ["_law_found", "_law_due", "_law_k"] ["_law_found", "_law_due"] (AG NC) := by walk_at "SC"
noncomputable def Tl (K : W.Frag) : Sp := fun vs H Q _ => ∃ (x y : Addr) (as bs : List Addr) (gs : List G), vs = [.ref x, .ref y] ∧ H x = some (.lst (as.map V.ref)) ∧ SqL K H y (bs.map V.ref) ∧ Ak H as gs ∧ Ak H bs gs ∧ gs.length ≤ 1000 ∧ Q (.bl true) H
noncomputable def W_row (x y : Addr) (H : Hp) : Nat → St → Hp → Prop := fun i σ H' => ∃ k, σ = [some (.ref x), some (.ref y), k] ∧ H' = H
theorem Pn (T : Tx K mg) : Af P w K mg base CX0 3 T.Rn T.PK ["_law_found", "_law_due"] (Tl K) := by
 refine T.Mj.F.ok Ol (fun _ _ _ _ h => by walk_at "LN") ?_
 ·walk_at "I2"
  obtain ⟨x, y, as, bs, gs, rfl, ex, ey, ga, gb, hl, k⟩ := h
  refine ⟨_, (AD (AY (IT (Cm (Bb (AH Bf (by rfl) T.As Ar (AA (pv 0) (AA (BU (v := .ty "list") (by rfl) T.F1 Df rfl) AC))))) (Fy (ptc GK (AH AJ (by rfl) T.Am Ac (AA (pv 0) AC)) (AH AJ (by rfl) T.Am Ac (AA (pv 1) AC))))).pt (AE (AK BP))
    AO)
   (AD (BO PassesOwn.never rfl (Bo (by rfl) T.B8 (AA (AH AJ (by rfl) T.Am Ac (AA (pv 1) AC)) AC)) (pgn 2 Ol)
    (AE (AY (Cm (Bb (pcl T.Hj (Kg T) hr AW (AA (pxi AM (pv 0) (pv 2)) (AA (pxi AM (pv 1) (pv 2)) AC))))) (AE (AK BP))
      AO)))
   (AE (AK BP)))), ?_⟩
  have la := ga.len
  have lb := gb.len
  walk_at "RD"
  walk_at "AUTO"
  refine ⟨_, rfl, _, rfl, _, Or.inl ey, ((bs.map V.ref).length : Int), rfl, by rw [z5]; lia, by rw [z5]; lia, BK (n := (((bs.map V.ref).length : Nat) : Int).toNat) (W_row x y H) ⟨none, rfl, rfl⟩ ?_ ?_⟩
  ·rintro i σ H1 hi ⟨k', rfl, rfl⟩
   rw [z5] at hi
   have hig : i < gs.length := by lia
   obtain ⟨a1, ha1, e1⟩ := ga.get (z4 hig)
   obtain ⟨b1, hb1, e2⟩ := gb.get (z4 hig)
   have h1 : atI (as.map V.ref) (0 + (i : Int)) = some (V.ref a1) := by rw [Int.zero_add]; exact Bx ha1
   have h2 : atI (bs.map V.ref) (0 + (i : Int)) = some (V.ref b1) := by rw [Int.zero_add]; exact Bx hb1
   delta Ky
   refine ⟨_, SqL.of ex, _, h1, _, ey, _, h2, _, rfl, _, rfl, [gs[i].p, gs[i].f, gs[i].h], e1, SqT.of e2, (by show 3 ≤ 1000; decide), ?_⟩
   exact ⟨_, rfl, rfl⟩
  ·rintro σ H1 ⟨k', rfl, rfl⟩
   walk_at "RD"
   exact k
theorem B0 : AR ["_law_beach", "_law_stands", "_law_throw", "_law_turned", "_law_places", "_law_told"] ["_law_beach", "_law_stands", "_law_throw", "_law_turned"] (AG Ei) := by walk_at "SC"
structure Qst (H H' : Hp) (TL : Addr) (vs : List V) (xs : List Tr) : Prop where
 s : A1 CG H H'
 tb : LM.Tbl H' CG CZ Kx
 e : H' TL = some (.lst vs)
 n : H TL = none
 en : ∀ Z, CT Z H → Ao (hid (TL :: Z) H') xs vs
 l : vs.length ≤ 10
theorem Qst.lz {H H' : Hp} {TL : Addr} {vs : List V} {xs : List Tr} (h : Qst H H' TL vs xs) (tb : LM.Tbl H CG CZ Kx) {Z : List Addr} (lz : CT Z H) : CT (TL :: Z) H' := (lz.sameT h.s tb).cons h.e
theorem Qst.app {H H1 H2 : Hp} {TL : Addr} {vs : List V} {xs : List Tr} {x : Tr} {v : V} (tb : LM.Tbl H CG CZ Kx) (h : Qst H H1 TL vs xs) (s : A1 CG H1 H2) (tb2 : LM.Tbl H2 CG CZ Kx) (hx : ∀ Z, CT Z H → CT (TL :: Z) H2 → Enc (hid (TL :: Z) H2) x v) (hl : vs.length < 10) :
  Qst H (upd H2 TL (.lst (vs ++ [v]))) TL (vs ++ [v]) (xs ++ [x]) := by
 have e2 := s.get h.tb h.e (fun _ z => nomatch z)
 refine ⟨(h.s.trans s).updFresh h.n, Tbl_updL tb2 e2, AN, h.n, fun Z lz => ?_, by rw [zC]; simp only [zE, zP]; lia⟩
 have l1 := h.lz tb lz
 have l2 : CT (TL :: Z) H2 := l1.sameT s h.tb
 have q1 := Ao.sameT s.hid (Tbl_hid l1 h.tb) (h.en Z lz)
 exact Ao.snoc (Enc.same (hid_upd (by simp)) (hx Z lz l2)) (Ao.same (hid_upd (by simp)) q1)
theorem Qst.cat {H H1 H2 H3 : Hp} {TL TN : Addr} {vs : List V} {xs : List Tr} {x y : Tr} {v w : V} (tb : LM.Tbl H CG CZ Kx) (h : Qst H H1 TL vs xs) (s : AI H1 H2) (s3 : AI H2 H3) (n : H2 TN = none) (e : H3 TN = some (.lst (vs ++ [v, w]))) (hx : Enc H2 x v) (tx : OC x) (hy : Enc H2 y w) (ty : OC y) (hl : vs.length < 9) :
  Qst H H3 TN (vs ++ [v, w]) (xs ++ [x, y]) := by
 have s13 := s.trans s3
 have n1 : H1 TN = none := s.free n
 refine ⟨h.s.trans (A1.of s13), BV h.tb s13, e, h.s.free h.tb n1, fun Z lz => ?_, by rw [zC]; simp only [zE, zP]; lia⟩
 have l1 := h.lz tb lz
 have l3 : CT (TN :: Z) H3 := ((lz.sameT h.s tb).same s13).cons e
 have q1 := Ao.sameT ((A1.of s13).hid2 (A := TL) n1) (Tbl_hid l1 h.tb) (h.en Z lz)
 have q2 := Ao.snoc (Enc.hid l3 ty (Enc.same s3 hy)) (Ao.snoc (Enc.hid l3 tx (Enc.same s3 hx)) q1)
 rw [qI, qI] at q2
 exact q2
noncomputable def QR (gs : List G) (R : List Tr) : Prop := ((gs.length ≤ 12 ∧ ∃ r, RQ gs r ∧ R = [r]) ∨ (12 < gs.length ∧ R = []))
noncomputable def QU (gs : List G) (U : List Tr) : Prop := ((gs ≠ [] ∧ ∃ t, Nf (gs.take 8) t ∧ U = [t]) ∨ (gs = [] ∧ U = []))
noncomputable def QE (gs : List G) (E' : List Tr) : Prop := ((1 < gs.length ∧ ∃ e f, Jc id (gs.take 8) (gs.take 8) e ∧ Jc Mx (gs.take 8) ((gs.take 8).map CD) f ∧ E' = [e, f]) ∨ (gs.length ≤ 1 ∧ E' = []))
noncomputable def QM (gs : List G) (M' : List Tr) : Prop := ((1 ≤ gs.length ∧ gs.length ≤ 6 ∧ ∃ m, Q9 gs m ∧ M' = [m]) ∨ (¬ (1 ≤ gs.length ∧ gs.length ≤ 6) ∧ M' = []))
noncomputable def Qi (b d q R3 : Addr) (tu : Bool) (H : Hp) (C : List Tr → Prop) : St → Hp → Prop := fun σ' H' => ∃ TL vs xs, σ' = [some (.ref b), some (.ref d), some (.ref q), some (.bl tu), some (.ref R3), some (.ref TL)] ∧ Qst H H' TL vs xs ∧ C xs
theorem V2 {ps : List Int} : (List.range ps.length).map (fun i => V.int (ps.getD (ps.length - 1 - i) 0)) = ps.reverse.map V.int := by
 apply List.ext_getElem
 ·simp
 ·intro i h1 h2
  have h3 : i < ps.length := by simpa using h1
  have h4 : ps.length - 1 - i < ps.length := by lia
  simp only [List.getElem_map, List.getElem_range, List.getElem_reverse, zI, z4 h4, Option.getD_some]
noncomputable def Mf {K : W.Frag} {mg : Str → Option Value} (T : Tx K mg) : Sp := fun vs H Q _ => ∃ (b S P d q : Addr) (ow : List Addr) (gs : List G) (past : List (List G)) (x y z v : Int) (tu : Bool), vs = [.ref b, .ref d, .ref q, .bl tu] ∧ Bch T.AQ H b S P ow gs past ∧ A0 H d gs ∧ H q = some (.tup [.int x, .int y, .int z, .int v]) ∧ ¬ RD x y z v ∧ LM.Tbl H CG CZ Kx ∧ ∀ D H' t, A1 CG H H' → LM.Tbl H' CG CZ Kx → H D = none → AnsQ gs (AT (gs.filter (Jk x y z v))) t → (∀ Z, CT Z H → Enc (hid Z H') t (.ref D)) → Q (.ref D) H'
theorem G2 (T : Tx K mg) : Af P w K mg base CX0 11 T.Ie T.Ho ["_law_beach", "_law_stands", "_law_throw", "_law_turned"] (Mf T) := by
 refine T.Eo.F.ok B0 (fun _ _ _ _ h => by walk_at "LN") ?_
 ·walk_at "I2"
  obtain ⟨b, S, P, d, q, ow, gs, past, x, y, z0, v0, tu, rfl, hb, hd, hq, nb, tb, k⟩ := h
  refine ⟨_, (AD (pst 4 B0 (FC FL (AH (Dl (by rfl)) (by rfl) T.Bw BW (AA (pv 1) AC)) Hy (IB AB)))
   (BB (AY (Bb (pv 3)) (AE (pst 4 B0 (F6 rfl (⟨rfl, by decide +kernel, by decide +kernel, by decide +kernel, rfl, by decide +kernel, by with_unfolding_all rfl, by rfl, by rfl, by rfl⟩ : BF _ _ "_law_k" ["_law_places"] [4]) (Bo (by rfl) T.B8 (AA (AH AJ (by rfl) T.Am Ac (AA (pv 4) AC)) AC)) (fun _ _ _ _  => (pxi (Ve (K := K) rfl) (pv 1) (AF Aa (AF Aa (AH (Tc (K := K) rfl) (by rfl) T.Am Ac (AA (pv 1) AC)) AB) (pv 0)))) (fun _ _ _ _ => Fj))))
    AO)
   (AD (pst 5 B0 (Ae (AA (NA (pv 0) T.AU T.E2.mt (NQ T) (hr.mono (by decide)) T.E2.b .nil AW) (AA (BR (pv 0) T.AU T.Dz.mt (MI T) (hr.mono (by decide)) T.Dz.b .nil Ll (AA (pv 2) AC)) AC))))
   (BB (AY (ptc Qr (AH IK (by rfl) T.Am Ac (AA (pv 1) AC)) AB) (AE (Av (BJ (pv 5) (NA (pv 0) T.AU T.Fl.mt (OS T) (hr.mono (by decide)) T.Fl.b .nil AW))))
    AO)
   (BB (AY (ptc DI (AH AJ (by rfl) T.Am Ac (AA (pv 4) AC)) AB) (AE (Av (BJ (pv 5) (BR (pv 0) T.AU T.DW.mt (Lq T) (hr.mono (by decide)) T.DW.b .nil Ll (AA (CO GC (by rfl) T.F1 Df (AA (pv 4) AC)) AC)))))
    AO)
   (BB (AY (ptc DI (AH AJ (by rfl) T.Am Ac (AA (pv 4) AC)) AB) (AE (pst 5 B0 (AF QI (pv 5) (Ae (AA (BR (pv 0) T.AU T.C2.mt (KF T) (hr.mono (by decide)) T.C2.b .nil Ll (AA (CO GC (by rfl) T.F1 Df (AA (pv 4) AC)) AC)) (AA (BR (pv 0) T.AU T.Cq.mt (Ka T) (hr.mono (by decide)) T.Cq.b .nil Ll (AA (CO GC (by rfl) T.F1 Df (AA (pv 4) AC)) AC)) AC))))))
    AO)
   (BB (AY (E4 (ptc Qr AB (AH AJ (by rfl) T.Am Ac (AA (pv 4) AC))) (C8 (ptc Qr (AH AJ (by rfl) T.Am Ac (AA (pv 4) AC)) AB))).pt (AE (Av (BJ (pv 5) (NA (pv 0) T.AU T.GG.mt (Oc T) (hr.mono (by decide)) T.GG.b .nil Ll))))
    AO)
   (AE (AK (pv 5)))))))))), ?_⟩
  have ac := hb.std.asc
  have l40 := hb.std.len
  walk_at "Q"
  walk_at "RD"
  refine sortS hd hb.std fun R1 H1 n1 s1 e1 => ⟨R1, rfl, _, SqL.of e1, fun R2 H2 n2 s2 e2 => ?_⟩
  rw [show (8 : Int) = ((8 : Nat) : Int) from rfl, F5, ← List.map_take] at e2
  walk_at "NX"
  have s02 := s1.trans s2
  have ndp : ((AT gs).take 8).Nodup := hb.std.nd.sublist (List.take_sublist _ _)
  have l8 : ((AT gs).take 8).length ≤ 8 := by rw [zh]; lia
  clear e1
  refine ⟨fun σ' H' => ∃ (R3 : Addr) (ps : List Int), σ' = [some (.ref b), some (.ref d), some (.ref q), some (.bl tu), some (.ref R3), none] ∧ AI H H' ∧ H' R3 = some (.lst (ps.map V.int)) ∧ H R3 = none ∧ ps.Perm ((AT gs).take 8), ?_, ?_⟩
  ·delta Hv
   have n0 : H R2 = none := s1.free n2
   clear ac hb hd hq k n1 s1 n2
   generalize (AT gs).take 8 = PL at *
   by_cases ht : tu = true
   ·rw [if_pos ht]
    have lm : (PL.map V.int).length = PL.length := z5 ..
    refine ⟨_, .inl (SqL.of e2), by lia, by lia, fun D n => ?_⟩
    rw [lm, Int.toNat_natCast]
    refine Mt (by rw [PySem.sizeLine_eq]; lia) n (fun i => V.int (PL.getD (PL.length - 1 - i) 0)) (fun i H R hi s hR => ?_) fun H s e => ⟨s02.trans s, PL.reverse, by rw [e, V2], s02.free n, List.reverse_perm _⟩
    delta qA
    refine ⟨_, .inl (SqL.of (s.get e2)), _, SqL.of (s.get e2), _, A2 (by rw [lm]; lia) (by rw [lm]; lia), ?_⟩
    rw [lm, show ((PL.length : Int) - 1 - (0 + (i : Int))).toNat = PL.length - 1 - i by lia]
    exact hR
   ·rw [if_neg ht]
    exact ⟨s02, _, e2, n0, zx _⟩
  rintro σ' H3 ⟨R3, ps, rfl, s3, e3, n3, pp⟩
  clear e2 s02 s1 s2 n1 n2 H1 H2 R1 R2
  have pt : ps.Perm (AT (gs.take 8)) := by rw [AT, List.map_take]; exact pp
  have pk := picks_sub ac (fun g hg => zm hg) pt
  have ac8 : Asc (gs.take 8) := List.Pairwise.sublist (List.take_sublist _ _) ac
  have lps := pt.length_eq
  have ndps : ps.Nodup := pp.nodup_iff.mpr ndp
  have sub : ∀ p ∈ ps, p ∈ AT gs := fun p h => zm (pp.mem_iff.mp h)
  rw [AT, z5, zh] at lps
  have hb3 := hb.same s3
  obtain ⟨dx, eb⟩ := hb3.at_
  walk_at "Q"
  walk_at "RD"
  refine ⟨dx, _, eb, rfl, b, S, P, ow, gs, past, rfl, hb3, fun H4 D0 as0 n4 s4 e4 ga4 => ?_⟩
  have hb4 := hb3.same s4
  obtain ⟨dx, eb⟩ := hb4.at_
  have s04 := s3.trans s4
  refine ⟨dx, _, eb, rfl, b, S, P, ow, gs, past, q, x, y, z0, v0, rfl, hb4, s04.get hq, fun w => absurd w nb, fun _ D1 H5 n5 s5 e5 => ⟨by decide, fun TL H6 n6 s6 e6 => ?_⟩⟩
  have s36 := s4.trans (s5.trans s6)
  have tb3 := BV tb s3
  have qs : Qst H3 H6 TL [.ref D0, .ref D1] [.l (gs.map trG), .l ((AT (gs.filter (Jk x y z0 v0))).map Tr.i)] := by
   refine ⟨A1.of s36, BV tb3 s36, e6, (s4.trans s5).free n6, fun Z lz => ?_, by simp⟩
   have l6 : CT (TL :: Z) H6 := (lz.same s36).cons e6
   have x0 : D0 ∉ TL :: Z := fun hz => by
    rcases zL.mp hz with z | z
    ·rw [← z, s5.get e4] at n6; cases n6
    ·exact lz.out n4 z
   have x1 : D1 ∉ TL :: Z := fun hz => by
    rcases zL.mp hz with z | z
    ·rw [← z, e5] at n6; cases n6
    ·exact lz.out (s4.free n5) z
   exact ⟨_, _, rfl, ⟨D0, _, rfl, CU (s6.get (s5.get e4)) x0, Ao.hid l6 (tupOL_map tupO_G gs) (XB (ga4.same (s5.trans s6)))⟩, _, _, rfl, ⟨D1, _, rfl, CU (s6.get e5) x1, Ao.ints _ _⟩, rfl⟩
  walk_at "NX"
  have hd3 := hd.same s3
  have k3 : ∀ D H' t, A1 CG H3 H' → LM.Tbl H' CG CZ Kx → H3 D = none → AnsQ gs (AT (gs.filter (Jk x y z0 v0))) t → (∀ Z, CT Z H3 → Enc (hid Z H') t (.ref D)) → Q (.ref D) H' := fun D H' t s' tb' n' an' en' => k D H' t ((A1.of s3).trans s') tb' (s3.free n') an' fun Z lz => en' Z (lz.same s3)
  clear hb hd hq tb k hb4 s4 s5 s6 n4 n5 n6 n3 e4 e5 e6 ga4 s04 s36 eb pp ndp l8 s3
  refine ⟨Qi b d q R3 tu H3 fun xs => ∃ R, xs = [.l (gs.map trG), .l ((AT (gs.filter (Jk x y z0 v0))).map Tr.i)] ++ R ∧ QR gs R ∧ R.length ≤ 1, ?_, ?_⟩
  ·have hb6 := hb3.sameT qs.s tb3
   obtain ⟨kvs, eD, lD⟩ := (hd3.sameT qs.s tb3).len
   obtain ⟨dx, eb⟩ := hb6.at_
   walk_at "RD"
   refine ⟨kvs, eD, ?_⟩
   by_cases h12 : gs.length ≤ 12
   ·rw [if_pos (z8 (by lia))]
    refine ⟨⟨_, qs.e⟩, dx, _, eb, rfl, b, S, P, ow, gs, past, rfl, hb6, fun D2 H7 as' rs n7 s7 ra own => ?_⟩
    obtain ⟨ar, er⟩ := VL ra own (zx _) ac
    refine ⟨_, s7.get qs.e, by rw [PySem.sizeLine_eq]; simp, TL, _, _, rfl, qs.app (x := .l (rs.map trR)) tb3 (A1.of s7) (BV qs.tb s7) (fun Z lz l7 => ⟨D2, _, rfl, CU ra.eD (fun hz => ?_), Ao.hid l7 (tupOL_map tupO_R rs) (VI ra.at_)⟩) (by simp), _, rfl, .inl ⟨h12, _, ar, rfl⟩, by simp⟩
    rcases zL.mp hz with z | z
    ·rw [z, qs.e] at n7; cases n7
    ·exact lz.out (qs.s.free qs.tb n7) z
   ·rw [if_neg (fun z => h12 (by have := z6 z; lia))]
    exact ⟨TL, _, _, rfl, qs, [], rfl, .inr ⟨by lia, rfl⟩, by simp⟩
  clear qs
  rintro σ' H7 ⟨TL, vs, xs, rfl, qs, R, rfl, hR, lR⟩
  refine ⟨Qi b d q R3 tu H3 fun xs => ∃ R U, xs = [.l (gs.map trG), .l ((AT (gs.filter (Jk x y z0 v0))).map Tr.i)] ++ R ++ U ∧ QR gs R ∧ QU gs U ∧ R.length ≤ 1 ∧ U.length ≤ 1, ?_, ?_⟩
  ·have hb6 := hb3.sameT qs.s tb3
   have e36 := qs.s.get tb3 e3 (fun _ z => nomatch z)
   obtain ⟨dx, eb⟩ := hb6.at_
   have lv := qs.en [] (fun _ z => absurd z (by simp))
   have lv := lv.len
   walk_at "RD"
   refine ⟨_, .inl (SqL.of e36), ?_⟩
   rw [z5]
   by_cases h0 : gs = []
   ·rw [if_neg (fun z => by have := z6 z; rw [h0, zP] at lps; lia)]
    exact ⟨TL, _, _, rfl, qs, R, [], by simp, hR, .inr ⟨h0, rfl⟩, lR, by simp⟩
   ·have hp : 0 < gs.length := List.length_pos_iff.mpr h0
    rw [if_pos (z8 (by lia))]
    have nbad : ¬ EM ps := fun z => by
     rcases z with z | z | z
     ·rw [z, zP] at lps; lia
     ·lia
     ·exact z ndps
    refine ⟨⟨_, qs.e⟩, dx, _, eb, rfl, _, .inl (SqL.of e36), fun l8' H8 n8 s8 e8 => ?_⟩
    refine ⟨b, S, P, ow, gs, past, l8', ps, rfl, hb6.same s8, SqL.of e8, by lia, fun z => absurd z nbad, fun _ => sub, fun _ D H9 sg x9 s9 p9 a9 an en => ?_⟩
    cases asc_same (p9.trans pk) a9 (zx _) ac8
    have s79 := s8.trans s9
    refine ⟨_, s79.get qs.e, by rw [PySem.sizeLine_eq, lv]; simp only [zC, zE, zP]; lia, TL, _, _, rfl, qs.app (x := x9) tb3 (A1.of s79) (BV qs.tb s79) (fun Z lz l7 => Enc.hid l7 an.tupO en) (by rw [lv]; simp only [zC, zE, zP]; lia), R, [x9], rfl, hR, .inl ⟨h0, _, an, rfl⟩, lR, by simp⟩
  clear qs
  rintro σ' H8 ⟨TL, vs, xs, rfl, qs, R, U, rfl, hR, hU, lR, lU⟩
  refine ⟨Qi b d q R3 tu H3 fun xs => ∃ R U E', xs = [.l (gs.map trG), .l ((AT (gs.filter (Jk x y z0 v0))).map Tr.i)] ++ R ++ U ++ E' ∧ QR gs R ∧ QU gs U ∧ QE gs E' ∧ R.length ≤ 1 ∧ U.length ≤ 1 ∧ E'.length ≤ 2, ?_, ?_⟩
  ·have hb6 := hb3.sameT qs.s tb3
   have e36 := qs.s.get tb3 e3 (fun _ z => nomatch z)
   obtain ⟨dx, eb⟩ := hb6.at_
   have lv := (qs.en [] (fun _ z => absurd z (by simp))).len
   walk_at "RD"
   refine ⟨_, .inl (SqL.of e36), ?_⟩
   rw [z5]
   by_cases h0 : 1 < gs.length
   ·rw [if_pos (z8 (by lia))]
    have nbad : ¬ EM ps := fun z => by
     rcases z with z | z | z
     ·rw [z, zP] at lps; lia
     ·lia
     ·exact z ndps
    refine ⟨dx, _, eb, rfl, _, .inl (SqL.of e36), fun l8' H9 n8 s8 e8 => ?_⟩
    refine ⟨b, S, P, ow, gs, past, l8', ps, rfl, hb6.same s8, SqL.of e8, by lia, fun z => absurd z nbad, fun _ => sub, fun _ z => by lia, fun _ _ D H10 sg x9 s9 p9 a9 an en => ?_⟩
    cases asc_same (p9.trans pk) a9 (zx _) ac8
    have s79 := s8.trans s9
    have hb9 := hb6.same s79
    obtain ⟨dx, eb⟩ := hb9.at_
    refine ⟨dx, _, eb, rfl, _, .inl (SqL.of (s79.get e36)), fun l9' H11 n10 s10 e10 => ?_⟩
    refine ⟨b, S, P, ow, gs, past, l9', ps, rfl, hb9.same s10, SqL.of e10, by lia, fun z => absurd z nbad, fun _ => sub, fun _ z => by lia, fun _ _ D' H12 sg' x11 s11 p11 a11 an' en' => ⟨by decide, fun z9 H13 n13 s13 e13 => ?_⟩⟩
    cases asc_same (p11.trans pk) a11 (zx _) ac8
    have sA := s79.trans (s10.trans (s11.trans s13))
    refine ⟨_, sA.get qs.e, _, e13, ?_, fun TN H14 n14 s14 e14 => ?_⟩
    ·rw [PySem.sizeLine_eq, lv]; simp only [zC, zE, zP]; lia
    exact ⟨TN, _, _, rfl, qs.cat tb3 sA s14 n14 e14 (Enc.same (s10.trans (s11.trans s13)) en) an.tupO (Enc.same s13 en') an'.tupO (by rw [lv]; simp only [zC, zE, zP]; lia), R, U, [x9, x11], by simp, hR, hU, .inl ⟨h0, _, _, an, an', rfl⟩, lR, lU, by simp⟩
   ·rw [if_neg (fun z => h0 (by have := z6 z; lia))]
    exact ⟨TL, _, _, rfl, qs, R, U, [], by simp, hR, hU, .inr ⟨by lia, rfl⟩, lR, lU, by simp⟩
  clear qs
  rintro σ' H9 ⟨TL, vs, xs, rfl, qs, R, U, E', rfl, hR, hU, hE, lR, lU, lE⟩
  refine ⟨Qi b d q R3 tu H3 fun xs => ∃ M', xs = [.l (gs.map trG), .l ((AT (gs.filter (Jk x y z0 v0))).map Tr.i)] ++ R ++ U ++ E' ++ M' ∧ QM gs M', ?_, ?_⟩
  ·have hb6 := hb3.sameT qs.s tb3
   have e36 := qs.s.get tb3 e3 (fun _ z => nomatch z)
   obtain ⟨dx, eb⟩ := hb6.at_
   have lv := (qs.en [] (fun _ z => absurd z (by simp))).len
   walk_at "RD"
   refine ⟨_, .inl (SqL.of e36), ?_⟩
   rw [z5]
   have nx : ¬ (1 ≤ gs.length ∧ gs.length ≤ 6) → Qi b d q R3 tu H3 (fun xs => ∃ M', xs = [.l (gs.map trG), .l ((AT (gs.filter (Jk x y z0 v0))).map Tr.i)] ++ R ++ U ++ E' ++ M' ∧ QM gs M') [some (.ref b), some (.ref d), some (.ref q), some (.bl tu), some (.ref R3), some (.ref TL)] H9 := fun h => ⟨TL, _, _, rfl, qs, [], by simp, .inr ⟨h, rfl⟩⟩
   by_cases h1 : 1 ≤ gs.length
   ·rw [if_pos (z8 (by lia))]
    refine ⟨_, .inl (SqL.of e36), ?_⟩
    rw [z5]
    by_cases h6 : gs.length ≤ 6
    ·rw [if_pos (z8 (by lia))]
     refine ⟨⟨_, qs.e⟩, dx, _, eb, rfl, b, S, P, ow, gs, past, rfl, hb6, qs.tb, fun z => absurd z (by lia), fun _ _ D3 H8 L q3 t sg n8 s8 tb8 mo mf => ?_⟩
     cases asc_same mo.hp mo.ha (zx _) ac
     refine ⟨_, s8.get qs.tb qs.e (fun _ z => nomatch z), by rw [PySem.sizeLine_eq, lv]; simp only [zC, zE, zP]; lia, TL, _, _, rfl, qs.app tb3 s8 tb8 (fun Z lz l7 => (Qv (mo.hid l7 (fun hz => ?_)) mf).2) (by rw [lv]; simp only [zC, zE, zP]; lia), _, rfl, .inl ⟨h1, h6, _, (Qv mo mf).1, rfl⟩⟩
     rcases zL.mp hz with z | z
     ·rw [z, qs.e] at n8; cases n8
     ·exact lz.out (qs.s.free qs.tb n8) z
    ·rw [if_neg (fun z => h6 (by have := z6 z; lia))]
     exact nx (by lia)
   ·rw [if_neg (fun z => h1 (by have := z6 z; lia))]
    exact nx (by lia)
  clear qs
  rintro σ' H10 ⟨TL, vs, xs, rfl, qs, M', rfl, hM⟩
  walk_at "RD"
  refine k3 TL H10 _ qs.s qs.tb qs.n ⟨R ++ (U ++ (E' ++ M')), ⟨R, U, E', M', hR, hU, hE, hM, rfl⟩, rfl⟩ fun Z lz => ⟨TL, vs, rfl, CU qs.e (lz.out qs.n), ?_⟩
  have := Ao.same (hid_sub (fun z hz => zD _ hz)) (qs.en Z lz)
  simp only [qI, List.cons_append, List.nil_append] at this
  exact this
theorem PQ : AR ["_law_one", "_law_two", "_law_deep", "_law_k"] ["_law_one", "_law_two", "_law_deep"] (AG NS) := by walk_at "SC"
structure Sca (K : W.Frag) (u : V) : Prop where
 k : ∃ ty : String, (∀ H', E1 K H' u (.type ty)) ∧ W.kitAny K (.type ty) (["list", "tuple"].map Value.type) = some false ∧ W.kitOne K (.type ty) (.type "bool") = some false ∧ W.kitAny K (.type ty) (["int", "str"].map Value.type) = some true
 s : HV u u = true
structure Seq2 (K : W.Frag) (H : Hp) (m : Nat) (p q : Addr) (xs : List Tr) (vs us : List V) : Prop where
 k : ∃ (ty : String) (bt : Bool), (∀ H', AI H H' → E1 K H' (.ref p) (.type ty) ∧ E1 K H' (.ref q) (.type ty)) ∧ W.kitAny K (.type ty) (["list", "tuple"].map Value.type) = some true ∧ W.kitOne K (.type ty) (.type "list") = some bt
 p : ∀ H', AI H H' → SqL K H' p vs ∨ SqT K H' p vs
 q : ∀ H', AI H H' → SqL K H' q us ∨ SqT K H' q us
 ep : Ao H xs vs
 eq : Ao H xs us
 l : xs.length ≤ 1000
 ok : Tr.okL m xs
theorem R5 {K : W.Frag} {H : Hp} {n : Nat} {x : Tr} {u v : V} (e1 : Enc H x u) (e2 : Enc H x v) (ok : Tr.ok n x) : (v = u ∧ Sca K u) ∨ ∃ (m : Nat) (p q : Addr) (xs : List Tr) (vs us : List V), u = .ref p ∧ v = .ref q ∧ n = m + 1 ∧ Seq2 K H m p q xs vs us := by
 cases x with
 | i i =>
  cases (show u = .int i from e1)
  exact .inl ⟨e2, ⟨"int", fun _ => .int _, rfl, rfl, rfl⟩, rfl⟩
 | s i =>
  cases (show u = .str i from e1)
  exact .inl ⟨e2, ⟨"str", fun _ => .str _, rfl, rfl, rfl⟩, rfl⟩
 | l xs =>
  obtain ⟨p, vs, rfl, hp, ep⟩ := e1
  obtain ⟨q, us, rfl, hq, eq⟩ := e2
  obtain ⟨m, rfl, l1, okl⟩ := ok
  exact .inr ⟨m, p, q, xs, vs, us, rfl, rfl, rfl, ⟨"list", true, fun H' s => ⟨.lst (s.get hp), .lst (s.get hq)⟩, rfl, rfl⟩, fun H' s => .inl (SqL.of (s.get hp)), fun H' s => .inl (SqL.of (s.get hq)), ep, eq, l1, okl⟩
 | t xs =>
  obtain ⟨p, vs, rfl, hp, ep⟩ := e1
  obtain ⟨q, us, rfl, hq, eq⟩ := e2
  obtain ⟨m, rfl, l1, okl⟩ := ok
  exact .inr ⟨m, p, q, xs, vs, us, rfl, rfl, rfl, ⟨"tuple", false, fun H' s => ⟨.tup (s.get hp), .tup (s.get hq)⟩, rfl, rfl⟩, fun H' s => .inr (SqT.of (s.get hp)), fun H' s => .inr (SqT.of (s.get hq)), ep, eq, l1, okl⟩
theorem orIx {K : W.Frag} {H : Hp} {p : Addr} {vs : List V} {i : Int} {v : V} {C : V → Prop} (h : SqL K H p vs ∨ SqT K H p vs) (g : atI vs i = some v) (c : C v) : (∃ xs, SqL K H p xs ∧ ∃ v, atI xs i = some v ∧ C v) ∨ ∃ xs, SqT K H p xs ∧ ∃ v, atI xs i = some v ∧ C v := by
 rcases h with h | h
 ·exact .inl ⟨_, h, _, g, c⟩
 ·exact .inr ⟨_, h, _, g, c⟩
noncomputable def IH {K : W.Frag} {mg : Str → Option Value} (T : Tx K mg) (n : Nat) : Sp := fun vs H Q _ => ∃ (x : Tr) (u v : V), vs = [u, v, .int n] ∧ Enc H x u ∧ Enc H x v ∧ Tr.ok n x ∧ n ≤ 6 ∧ ∀ H', AI H H' → Q (.bl true) H'
theorem O6 (T : Tx K mg) (n : Nat) (sp0 : Sp) (F0 : Af P w K mg base CX0 n T.Hf T.Fb ["_law_one", "_law_two", "_law_deep"] sp0) (h0 : ∀ m, n = m + 1 → sp0 = IH T m) : Af P w K mg base CX0 (n + 1) T.Hf T.Fb ["_law_one", "_law_two", "_law_deep"] (IH T n) := by
 refine T.NN.F.ok PQ (fun vs H Q E h => ?_) (fun cdv A outer s H vs Q E hr h => ?_)
 ·obtain ⟨x, u, v, rfl, e1, e2, ok, n6, k⟩ := h
  rfl
 ·obtain ⟨x, u, v, rfl, e1, e2, ok, n6, k⟩ := h
  have hu := Vi hr
  refine ⟨_, (AD (AY (E4 (Bb (AH call_isT (by rfl) T.As Ar (AA (pv 0) (AA (AZ (AA (BU (v := .ty "list") (by rfl) T.F1 Df rfl) (AA (BU (v := .ty "tuple") (by rfl) T.QD N4 rfl) AC))) AC)))) (C8 (Bb (AH call_isT (by rfl) T.As Ar (AA (pv 1) (AA (AZ (AA (BU (v := .ty "list") (by rfl) T.F1 Df rfl) (AA (BU (v := .ty "tuple") (by rfl) T.QD N4 rfl) AC))) AC)))))).pt (AD (AY (IT (ptc GK (AH Bf (by rfl) T.As Ar (AA (pv 0) (AA (BU (v := .ty "list") (by rfl) T.F1 Df rfl) AC))) (AH Bf (by rfl) T.As Ar (AA (pv 1) (AA (BU (v := .ty "list") (by rfl) T.F1 Df rfl) AC)))) (IT (ptc GK (AH AJ (by rfl) T.Am Ac (AA (pv 0) AC)) (AH AJ (by rfl) T.Am Ac (AA (pv 1) AC))) (Fy (ptc Au (pv 2) AB)))).pt (AE (AK BP))
      AO)
     (AD (BO PassesOwn.never rfl (Bo (by rfl) T.B8 (AA (AH AJ (by rfl) T.Am Ac (AA (pv 0) AC)) AC)) (pgn 3 PQ)
      (AE (AY (Cm (Bb (pcl (hk := zG _) T.NN F0 hr AW (AA (pxi (W9 AM AS) (pv 0) (pv 3)) (AA (pxi (W9 AM AS) (pv 1) (pv 3)) (AA (AF Aa (pv 2) AB) AC)))))) (AE (AK BP))
        AO)))
     (AE (AK BP))))
    AO)
   (AD (AY (IT (Bb (AH Bf (by rfl) T.As Ar (AA (pv 0) (AA (BU (v := .ty "bool") (by rfl) T.SX QO rfl) AC)))) (Fy (Cm (Bb (AH call_isT (by rfl) T.As Ar (AA (pv 0) (AA (AZ (AA (BU (v := .ty "int") (by rfl) T.RJ Ng rfl) (AA (BU (v := .ty "str") (by rfl) T.XM U5 rfl) AC))) AC))))))).pt (AE (AK BP))
    AO)
   (AE (AK (Nh (AH call_isT (by rfl) T.As Ar (AA (pv 1) (AA (AZ (AA (BU (v := .ty "int") (by rfl) T.RJ Ng rfl) (AA (BU (v := .ty "str") (by rfl) T.XM U5 rfl) AC))) AC))) (Nh (Vy (AH Bf (by rfl) T.As Ar (AA (pv 1) (AA (BU (v := .ty "bool") (by rfl) T.SX QO rfl) AC)))) (Pr (pec Au (pv 0) (pv 1))))))))), ?_⟩
  rcases R5 (K := K) e1 e2 ok with ⟨rfl, ⟨ty, ht, k1, k2, k3⟩, hs⟩ | ⟨m, p, q, xs, vs, us, rfl, rfl, rfl, ⟨ty, bt, ht, k1, k2⟩, hp, hq, ep, eq, l1, okl⟩
  ·clear e1 e2 ok h0
   walk_at "Q"
   refine MV fun A B hA hB => ?_
   walk_at "RD"
   delta rIsT
   refine ⟨by decide, fun p1 H1 n1 s1 f1 => ⟨_, ["list", "tuple"], f1, ht _, false, k1, ?_⟩⟩
   rw [if_neg (by decide)]
   refine hB _ _ ?_; clear hA hB A B
   walk_at "NX"
   walk_at "Q"
   refine MV fun A B hA hB => ?_
   walk_at "RD"
   delta rIsT
   refine ⟨_, ht _, false, k2, ?_⟩
   rw [if_neg (by decide)]
   refine ⟨by decide, fun p2 H2 n2 s2 f2 => ⟨_, ["int", "str"], f2, ht _, true, k3, ?_⟩⟩
   rw [if_neg (by decide)]
   refine hB _ _ ?_; clear hA hB A B
   walk_at "NX"
   walk_at "RD"
   delta rIsT
   refine ⟨by decide, fun p3 H3 n3 s3 f3 => ⟨_, ["int", "str"], f3, ht _, true, k3, ?_⟩⟩
   rw [if_pos rfl]
   refine ⟨_, ht _, false, k2, ?_⟩
   rw [if_pos (by decide)]
   exact ⟨hs, k _ ((s1.trans s2).trans s3)⟩
  have lv := ep.len
  have lu := eq.len
  cases h0 m rfl
  clear e1 e2 ok h0
  walk_at "Q"
  refine MV fun A B hA hB => ?_
  walk_at "RD"
  delta rIsT
  refine ⟨by decide, fun p1 H1 n1 s1 f1 => ⟨_, ["list", "tuple"], f1, (ht _ s1).1, true, k1, ?_⟩⟩
  rw [if_pos rfl]
  refine ⟨by decide, fun p2 H2 n2 s2 f2 => ⟨_, ["list", "tuple"], f2, (ht _ (s1.trans s2)).2, true, k1, ?_⟩⟩
  rw [if_pos rfl]
  have s02 := s1.trans s2
  clear s1 s2 n1 n2 f1 f2
  refine hA _ _ ?_; clear hA hB A B
  clear hM
  refine DH fun M1 hM => ?_
  refine MV fun A B hA hB => ?_
  walk_at "RD"
  refine ⟨_, (ht _ s02).1, bt, k2, _, (ht _ s02).2, bt, k2, ?_⟩
  rw [if_neg (by cases bt <;> decide)]
  refine ⟨vs, hp _ s02, us, hq _ s02, ?_⟩
  rw [if_neg (by rw [lv, lu]; simp), if_neg (by rw [decide_eq_true_eq]; lia)]
  refine hB _ _ ?_; clear hA hB A B
  refine hM _ _ ?_; clear hM M1
  refine DH fun M1 hM => ?_
  walk_at "RD"
  refine ⟨_, rfl, p, rfl, vs, hp _ s02, (vs.length : Int), rfl, by lia, by lia, BK (n := ((vs.length : Int)).toNat) (fun _ σ H' => ∃ o, σ = [some (.ref p), some (.ref q), some (.int ((m + 1 : Nat) : Int)), o] ∧ AI H H') ⟨_, rfl, s02⟩ ?_ ?_⟩
  ·rintro i σ H3 hi ⟨o, rfl, s3⟩
   walk_at "RD"
   have hx : i < xs.length := by lia
   have gx := z4 hx
   obtain ⟨va, ga, ea⟩ := ep.get gx
   obtain ⟨vb, gb, eb⟩ := eq.get gx
   rw [show (((m + 1 : Nat) : Int) - 1) = (m : Int) by lia, show (0 + (i : Int)) = (i : Int) by lia]
   refine orIx (hp _ s3) (Dp ga) (orIx (hq _ s3) (Dp gb) ?_)
   refine ⟨xs[i], va, vb, rfl, ea.same s3, eb.same s3, okL_mem okl gx, by lia, fun H4 s4 => ⟨true, rfl, ?_⟩⟩
   rw [if_neg (by decide)]
   exact ⟨⟨_, rfl⟩, s3.trans s4⟩
  ·rintro σ H3 ⟨o, rfl, s3⟩
   refine hM _ _ ?_; clear hM M1
   walk_at "RD"
   exact k _ s3
theorem PU (T : Tx K mg) : ∀ n, Af P w K mg base CX0 (n + 1) T.Hf T.Fb ["_law_one", "_law_two", "_law_deep"] (IH T n)
 | 0 => O6 T 0 (fun _ _ _ _ => False) ⟨fun _ _ _ _ z => z.elim, fun _ _ _ _ _ _ _ _ _ _ _ _ _ z => z.elim⟩ (fun _ z => absurd z (Nat.succ_ne_zero _).symm)
 | n + 1 => O6 T (n + 1) _ (PU T n) fun m e => by cases e; rfl
theorem UH (T : Tx K mg) : Af P w K mg base CX0 8 T.Hf T.Fb ["_law_one", "_law_two", "_law_deep"] (IH T 6) := (PU T 6).mono (by decide)
theorem CY : AR ["_law_script", "_law_beach", "_law_stands", "_law_past", "_law_cell", "_law_throw", "_law_early", "_law_kept_here", "_law_k", "_law_before", "_law_told"] ["_law_script"] (AG Sr) := by walk_at "SC"
noncomputable def LT (H H' : Hp) : Prop := ∀ b xs, (H b = some (.lst xs) → H' b = some (.lst xs)) ∧ (H b = some (.tup xs) → H' b = some (.tup xs))
mutual
theorem Enc.lt {H H' : Hp} (s : LT H H') : ∀ {x : Tr} {v : V}, Enc H x v → Enc H' x v
 | .i _, _, h => h
 | .s _, _, h => h
 | .l _, _, ⟨p, vs, e, h, r⟩ => ⟨p, vs, e, (s p vs).1 h, Ao.lt s r⟩
 | .t _, _, ⟨p, vs, e, h, r⟩ => ⟨p, vs, e, (s p vs).2 h, Ao.lt s r⟩
theorem Ao.lt {H H' : Hp} (s : LT H H') : ∀ {xs : List Tr} {vs : List V}, Ao H xs vs → Ao H' xs vs
 | [], _, h => h
 | _ :: _, _, ⟨v, r, e, h1, h2⟩ => ⟨v, r, e, Enc.lt s h1, Ao.lt s h2⟩
end
theorem Kept.lt {ow ow' : List Addr} {KH : Addr} {H H' : Hp} (k : Kept ow H H' ow') : LT (hid (KH :: ow) H) (hid (KH :: ow') H') := fun b xs => by
 unfold TG.hid
 by_cases n : b ∈ KH :: ow
 ·rw [if_pos n]; exact ⟨fun e => (by cases e), fun e => (by cases e)⟩
 ·rw [if_neg n]
  have nb : b ≠ KH := fun z => n (by rw [z]; exact zR)
  have no : b ∉ ow := fun z => n (zD _ z)
  have up : ∀ u, H b = some u → b ∉ KH :: ow' := fun u e z => by
   rcases zL.mp z with z | z
   ·exact nb z
   ·rcases k.off b z with z | z
    ·exact no z
    ·rw [z] at e; cases e
  exact ⟨fun e => (by rw [if_neg (up _ e)]; exact k.lst b xs no e), fun e => (by rw [if_neg (up _ e)]; exact k.tup b xs e)⟩
theorem Ao.take {H : Hp} : ∀ {xs : List Tr} {vs : List V}, Ao H xs vs → ∀ n, Ao H (xs.take n) (vs.take n)
 | _, _, _, 0 => rfl
 | [], _, h, n + 1 => by cases (show _ = [] from h); rfl
 | _ :: _, _, ⟨v, r, e, h1, h2⟩, n + 1 => by subst e; exact ⟨_, _, rfl, h1, Ao.take h2 n⟩
theorem Uz {w : Str} {gs : List G} {past : List (List G)} {p x y : Int} :
  ((aft w gs past p x y).2.length ≤ past.length → (aft w gs past p x y).2 ++ [(aft w gs past p x y).1] = (past ++ [gs]).take ((aft w gs past p x y).2.length + 1)) ∧ (past.length < (aft w gs past p x y).2.length → (aft w gs past p x y).2 = past ++ [gs]) := by
 cases h : BX w gs past p x y with
 | some e =>
  rw [Pw h]
  refine ⟨fun _ => ?_, fun z => absurd z (zr _)⟩
  dsimp only
  rw [List.take_of_length_le (by rw [zC]; exact zG _)]
 | none =>
  rw [P5 h]
  dsimp only
  by_cases hw : w = "back"
  ·rw [Fz hw] at h
   unfold JO at h
   have h1 : 1 ≤ p := by
    by_cases z : p < 1
    ·rw [if_pos z] at h; cases h
    ·lia
   have h2 : p ≤ past.length := by
    by_cases z : (past.length : Int) < p
    ·rw [if_neg (by lia), if_pos z] at h; cases h
    ·lia
   have hj : past.length - p.toNat < past.length := by lia
   have eG : Dc w gs past p x y = past[past.length - p.toNat] := by
    unfold Dc
    rw [if_pos hw, zI, z4 hj]; rfl
   have eP : JA w gs past p = past.take (past.length - p.toNat) := if_pos hw
   rw [eG, eP, zh, Nat.min_eq_left (by lia)]
   refine ⟨fun _ => ?_, fun z => by lia⟩
   rw [List.take_append_of_le_length (by lia), zM hj]
  ·rw [D6 hw, zC]
   exact ⟨fun z => by simp only [zE, zP] at z; lia, fun _ => rfl⟩
structure Hist (H : Hp) (KH : Addr) (ow : List Addr) (e : Nat) (hs : List (List G)) (F : List G → List Int) (ts : List Tr) (vs : List V) : Prop where
 eK : H KH = some (.lst vs)
 nK : KH ∉ ow
 en : Ao (hid (KH :: ow) H) ts vs
 len : e + ts.length = hs.length
 an : ∀ j t, ts[j]? = some t → ∃ g, hs[e + j]? = some g ∧ AnsQ g (F g) t
 pos : 0 < ts.length
theorem _root_.TG.Ch.updN {ow ow' : List Addr} {H H' : Hp} {z : Addr} {o : HO} (k : Ch ow H H' ow') (n : H z = none) : Ch ow H (upd H' z o) ow' := by
 have ne : ∀ {c u}, H c = some u → c ≠ z := fun e q => by rw [q, n] at e; cases e
 exact ⟨fun c xs e => (AL (ne e)).trans (k.tup c xs e), fun c xs h e => (AL (ne e)).trans (k.lst c xs h e), fun c o u e => (AL (ne e)).trans (k.frz c o u e), k.off, fun c u e => let ⟨u', h⟩ := k.live c u e; ⟨u', (AL (ne e)).trans h⟩⟩
theorem _root_.TG.Wd.updL {C : Addr} {H : Hp} {b S P : Addr} {ow : List Addr} {gs : List G} {past : List (List G)} {D L z : Addr} {xs : List V} {o : HO} (h : Wd C H b S P ow gs past D L) (e : H z = some (.lst xs)) (n : z ∉ L :: ow) : Wd C (upd H z o) b S P ow gs past D L := by
 have nl : ∀ {c u}, H c = some u → (∀ ys, u ≠ .lst ys) → upd H z o c = some u := fun q h => (AL (fun y => by rw [y, e] at q; cases q; exact h _ rfl)).trans q
 have no : ∀ {c u}, c ∈ L :: ow → H c = some u → upd H z o c = some u := fun m q => (AL (fun y => n (by rw [← y]; exact m))).trans q
 have dk : ∀ {D gs}, A0 H D gs → A0 (upd H z o) D gs := fun h => h.keep (fun _ q => nl q (fun _ y => by cases y)) fun _ _ q => nl q (fun _ y => by cases y)
 obtain ⟨ds, e2, pr, nd⟩ := h.pl
 obtain ⟨dx, eb⟩ := h.bch.at_
 refine ⟨h.bch.keep fun a u hc q => ?_, dk h.dk, ⟨ds, no zR e2, Paired.mapP pr fun _ _ k => dk k, nd⟩, h.po⟩
 rcases hc with rfl | hc | ⟨ys, rfl⟩
 ·rw [eb] at q; cases q
  exact nl eb (fun _ y => by cases y)
 ·exact no (zD _ hc) q
 ·exact nl q (fun _ y => by cases y)
noncomputable def Sd (K : W.Frag) : Sp := fun vs H Q _ => ∃ (a : Addr) (ns : List Int), vs = [.ref a] ∧ SqL K H a (ns.map V.int) ∧ ns.length ≤ 63 ∧ LM.Tbl H CG CZ Kx ∧ ∀ H', Q (.bl true) H'
theorem Ze (T : Tx K mg) : Af P w K mg base CX0 12 T.XD T.Vj ["_law_script"] (Sd K) := by
 refine T.d_law.F.ok CY (fun _ _ _ _ h => by walk_at "LN") ?_
 ·walk_at "I2"
  obtain ⟨a, ns, rfl, hS, hl, tb, k⟩ := h
  refine ⟨_, (AD (pst 1 CY (U0 T.Mv (Of T) (hr.mono (by decide)) (by rfl) T.Wy T.KU.b .nil AW))
   (AD (pst 2 CY RF)
   (AD (pst 3 CY (Ae AC))
   (AD (AY (Cm (Bb (pcl T.Qe (UY T) hr AW (AA (pv 1) (AA (pv 2) (AA (pv 3) (AA (pv 0) (AA AB AC)))))))) (AE (AK BP))
    AO)
   (AD (pst 4 CY (pcl T.Jr (IC T) hr AW (AA (pv 0) (AA AB AC))))
   (AD (pst 5 CY (AZ (AA (AF Aa (AF AX (pv 4) AB) AB) (AA (AF Ag AB (AF AX (AF BM (pv 4) AB) AB)) (AA (AF Aa (AF AX (AF BM (pv 4) AB) AB) AB) (AA (AF Ag AB (AF AX (AF BM (pv 4) AB) AB)) AC))))))
   (AD (pst 6 CY (AH AJ (by rfl) T.Am Ac (AA (pv 3) AC)))
   (AD (pst 7 CY (Ae (AA (pcl T.Eo (G2 T) hr AW (AA (pv 1) (AA (pv 2) (AA (pv 5) (AA BP AC))))) AC)))
   (AD (BO PassesOwn.never rfl (Lj (by rfl) T.B8 (AA AB (AA (AH AJ (by rfl) T.Am Ac (AA (pv 0) AC)) AC))) (pgn 8 CY)
    (AD (pst 9 CY (AH AJ (by rfl) T.Am Ac (AA (pv 3) AC)))
     (AD (AY (Cm (Bb (pcl T.Jy (Lc T) hr AW (AA (pv 1) (AA (pv 2) (AA (pv 3) (AA (pcl T.Q4 (Ub T) hr AW (AA (pv 0) (AA (pv 8) (AA (pv 2) (AA (pv 3) AC))))) AC))))))) (AE (AK BP))
      AO)
     (AD (pst 10 CY (pcl T.Eo (G2 T) hr AW (AA (pv 1) (AA (pv 2) (AA (pv 5) (AA BP AC))))))
     (AD (AY (Cm (Bb (pcl T.Mj (Pn T) hr AW (AA (pxi AM (pv 10) AB) (AA (pcl T.GH (JJ T) hr AW (AA (pv 2) AC)) AC))))) (AE (AK BP))
      AO)
     (AE (AY (ptc Ee (AH AJ (by rfl) T.Am Ac (AA (pv 3) AC)) (pv 6)) (AD (pst 6 CY (AH AJ (by rfl) T.Am Ac (AA (pv 3) AC)))
       (AE (pst 7 CY (Ae (AA (pv 10) AC)))))
      (AE (AY (ptc DI (AH AJ (by rfl) T.Am Ac (AA (pv 3) AC)) (pv 9)) (AE (Av (BJ (pv 7) (pv 10))))
        (AD (pst 7 CY (FC FL (pv 7) Hy (IB (AF Ag (AF Aa (AH AJ (by rfl) T.Am Ac (AA (pv 3) AC)) (pv 6)) AB))))
         (AE (AY (Cm (Bb (pcl T.NN (UH T) hr AW (AA (pxi AM (pv 7) (AF Aa (AH AJ (by rfl) T.Am Ac (AA (pv 7) AC)) AB)) (AA (pv 10) (AA AB AC)))))) (AE (AK BP))
          AO))))))))))))
   (AE (AK (pcl T.Mj (Pn T) hr AW (AA (pxi AM (pxi AM (pv 7) (AF Aa (AH AJ (by rfl) T.Am Ac (AA (pv 7) AC)) AB)) AB) (AA (pcl T.GH (JJ T) hr AW (AA (pv 2) AC)) AC)))))))))))))), ?_⟩
  walk_at "Q"
  delta G8
  refine VZ fun b S0 P0 H3 nb nS nP s3 hb => ?_
  walk_at "NX"
  walk_at "Q"
  walk_at "RD"
  intro d H4 nd s4 e4
  walk_at "NX"
  walk_at "Q"
  walk_at "RD"
  refine ⟨by decide, fun L H5 nL s5 e5 => ?_⟩
  walk_at "NX"
  have s34 := s3.trans s4
  have s35 := s34.trans s5
  have fr : ∀ c ∈ [L, S0, P0], H c = none := fun c hc => by
   simp at hc
   rcases hc with rfl | rfl | rfl
   ·exact s34.free nL
   ·exact nS
   ·exact nP
  have sc5 : Scr K [L, S0, P0] H5 a (ns.map V.int) := Scr.of hS fr s35
  have hw0 : Wd T.AQ H5 b S0 P0 [S0, P0] [] [] d L := ⟨hb.same (s4.trans s5), A0.nil (s5.get e4), ⟨[], e5, .nil, by simp⟩, (hb.same s4).off nL⟩
  have tb5 := BV tb s35
  clear fr s34 s35 s3 s4 s5 e4 e5 nb nS nP nL nd hb hS tb
  walk_at "Q"
  walk_at "RD"
  refine ⟨b, S0, P0, d, L, a, ns, 9, rfl, sc5, hw0, by decide, by decide, fun H6 S P ow gs past kt hw => ⟨true, rfl, ?_⟩⟩
  rw [if_neg (by simp)]
  walk_at "NX"
  have sc6 := (sc5.kept kt).sq
  have tb6 := Qb tb5 kt
  have lm : (ns.map V.int).length = ns.length := z5 ..
  clear hw0 tb5
  walk_at "Q"
  walk_at "RD"
  refine ⟨a, 5, ns, rfl, by decide, sc6, ?_⟩
  walk_at "NX"
  generalize ns.getD (Int.toNat 5) 0 = cl
  walk_at "Q"
  walk_at "RD"
  refine ⟨by decide, fun q H7 n7 s7 e7 => ?_⟩
  walk_at "NX"
  have nbt : ¬ RD (cl % 41 - 20) (1 + cl / 41 % 3) (cl / 123 % 9 - 4) (1 + cl / 1107 % 4) := TW (by lia) (by lia) (by lia) (by lia) (by lia) (by lia)
  generalize cl % 41 - 20 = x at *
  generalize 1 + cl / 41 % 3 = y at *
  generalize cl / 123 % 9 - 4 = z0 at *
  generalize 1 + cl / 1107 % 4 = v0 at *
  have hw7 := hw.same s7
  have tb7 := BV tb6 s7
  have k7 := (kt.same s7).w
  clear hw tb6 kt sc6 s7 n7
  have lzL : ∀ {H : Hp} {S P : Addr} {ow : List Addr} {gs : List G} {past : List (List G)}, Wd T.AQ H b S P ow gs past d L → CT (L :: ow) H := fun hw => by
   obtain ⟨xs, eL, _⟩ := hw.plen
   exact CT.cons hw.bch.lv eL
  obtain ⟨xs0, eL0, lL0⟩ := hw7.plen
  walk_at "Q"
  walk_at "RD"
  refine ⟨_, .inl (SqL.of eL0), ?_⟩
  rw [lL0]
  walk_at "NX"
  clear eL0 lL0
  walk_at "Q"
  walk_at "RD"
  refine ⟨b, S, P, d, q, ow, gs, past, x, y, z0, v0, false, rfl, hw7.bch, hw7.dk, e7, nbt, tb7, fun D H8 t s8 tb8 n8 an en => ⟨by decide, fun KH H9 n9 s9 e9 => ?_⟩⟩
  walk_at "NX"
  have hw8 := hw7.sameT s8 tb7
  have k9 := (k7.trans (Ch.ofT s8 tb7 tb8)).same s9
  have hw9 := hw8.same s9
  have tb9 := BV tb8 s9
  have e79 := s9.get (s8.get tb7 e7 (fun _ z => nomatch z))
  have sc9 := (sc5.keptW k9).sq
  have hi9 : Hist H9 KH (L :: ow) past.length (past ++ [gs]) (fun g => AT (g.filter (Jk x y z0 v0))) [t] [.ref D] := by
   refine ⟨e9, (lzL hw8).out n9, ⟨_, _, rfl, Enc.same (AI.hid2 s9 n9) (en _ (lzL hw7)), rfl⟩, by rw [zC]; rfl, fun j t' hj => ?_, by simp⟩
   match j, hj with
   | 0, hj => cases hj; exact ⟨gs, by rw [Nat.add_zero, zg (zG _), Nat.sub_self]; rfl, an⟩
   | j + 1, hj => cases hj
  have n5 : H5 KH = none := by
   cases hz : H5 KH with
   | none => rfl
   | some u =>
    obtain ⟨u', h⟩ := (k7.trans (Ch.ofT s8 tb7 tb8)).live _ u hz
    rw [n9] at h; cases h
  clear hw7 k7 e7 tb7 s8 n8 an en hw8 tb8 s9 n9 e9
  refine DH fun M0 hM0 => ?_
  walk_at "RD"
  refine ⟨_, rfl, _, rfl, _, .inl sc9, 5, _, rfl, ⟨by lia, by lia, by lia, by lia⟩, BK (fun i σ H' => ∃ (e : Nat) (KH : Addr) (vs : List V) (ts : List Tr) (o8 o9 o10 : Option V) (S P : Addr) (ow : List Addr) (gs : List G) (past : List (List G)), σ = [some (.ref a), some (.ref b), some (.ref d), some (.ref L), some (.int cl), some (.ref q), some (.int (e : Int)), some (.ref KH), o8, o9, o10] ∧ Ch [L, S0, P0] H5 H' (L :: ow) ∧ LM.Tbl H' CG CZ Kx ∧ Wd T.AQ H' b S P ow gs past d L ∧ H' q = some (.tup [.int x, .int y, .int z0, .int v0]) ∧ Hist H' KH (L :: ow) e (past ++ [gs]) (fun g => AT (g.filter (Jk x y z0 v0))) ts vs ∧ H5 KH = none) ⟨past.length, KH, _, _, none, none, none, S, P, ow, gs, past, rfl, k9, tb9, hw9, e79, hi9, n5⟩ ?_ ?_⟩
  ·clear k9 hw9 tb9 sc9 e79 hi9
   rintro i σ H7 hi ⟨e, KH, vs, ts, o8, o9, o10, S, P, ow, gs, past, rfl, kt, tb7, hw, e7, his, n5⟩
   have hi' : 5 + i < ns.length := by lia
   clear hi
   have sc7 := (sc5.keptW kt).sq
   obtain ⟨xs, eL, lL⟩ := hw.plen
   dsimp only [ET, List.set_cons_succ, List.set_cons_zero]
   walk_at "Q"
   walk_at "RD"
   refine ⟨_, .inl (SqL.of eL), ?_⟩
   rw [lL]
   walk_at "NX"
   walk_at "Q"
   walk_at "RD"
   refine ⟨a, 5 + (i : Int), ns, d, L, gs, xs, rfl, sc7, by lia, by lia, by lia, hw.dk, hw.bch.std.len, eL, fun q' H8 w p x1 y1 n8 s8 e8 wd => ?_⟩
   refine ⟨b, S, P, ow, gs, past, d, L, q', w, p, x1, y1, rfl, SqT.of e8, hw.same s8, wd, fun H9 S1 P1 ow1 hw9 kt9 => ⟨true, rfl, ?_⟩⟩
   rw [if_neg (by simp)]
   walk_at "NX"
   obtain ⟨hh1, hh2⟩ := Uz (w := w) (gs := gs) (past := past) (p := p) (x := x1) (y := y1)
   have e9 := kt9.tup _ _ (s8.get e7)
   have tb9 := Qb (BV tb7 s8) kt9
   have k9 := (kt.same s8).trans kt9.w
   have eK9 := kt9.lst _ _ his.nK (s8.get his.eK)
   have nK9 : KH ∉ L :: ow1 := fun z => by
    rcases kt9.off _ z with z | z
    ·exact his.nK z
    ·rw [s8.get his.eK] at z; cases z
   have en9 := Ao.lt kt9.lt (Ao.same (AI.hid s8) his.en)
   have hlen := his.len
   have han := his.an
   have hpos := his.pos
   clear hw kt sc7 eL lL e7 kt9 tb7 his wd e8 s8 n8
   generalize (aft w gs past p x1 y1).1 = gs1 at *
   generalize (aft w gs past p x1 y1).2 = past1 at *
   walk_at "Q"
   walk_at "RD"
   refine ⟨b, S1, P1, d, q, ow1, gs1, past1, x, y, z0, v0, false, rfl, hw9.bch, hw9.dk, e9, nbt, tb9, fun D H10 t s10 tb10 n10 an en => ?_⟩
   walk_at "NX"
   have lz9 : CT (KH :: L :: ow1) H9 := (lzL hw9).cons eK9
   have hw10 := hw9.sameT s10 tb9
   have e10 := s10.get tb9 e9 (fun _ z => nomatch z)
   have k10 := k9.trans (Ch.ofT s10 tb9 tb10)
   have eK10 := s10.get tb9 eK9 (fun _ z => nomatch z)
   have enL10 := Ao.sameT s10.hid (Tbl_hid lz9 tb9) en9
   have enT := en _ lz9
   have lz10 := lz9.sameT s10 tb9
   have anU := an
   clear hw9 e9 k9 eK9 en9 tb9 lz9 s10 n10 en
   obtain ⟨xr, ap, rfl⟩ := an.at_
   obtain ⟨_, v1, y1', q1, v2, vr, rfl, x2, xr2⟩ := Enc.same hid_le enT
   cases y1'
   obtain ⟨D0, vs0, rfl, eD0, xl⟩ := x2
   obtain ⟨as0, rfl, ga0⟩ := R9 xl
   have l40 := hw10.bch.std.len
   walk_at "Q"
   walk_at "RD"
   refine ⟨_, SqL.of q1, _, Dp (j := 0) rfl, d, gs1, rfl, hw10.dk, hw10.bch.std, fun R H11 as n11 s11 e11 ga11 => ?_⟩
   refine ⟨D0, R, as0, as, gs1, rfl, s11.get eD0, SqL.of e11, ga0.same s11, ga11, by lia, true, rfl, ?_⟩
   rw [if_neg (by decide)]
   walk_at "NX"
   have hw11 := hw10.same s11
   have tb11 := BV tb10 s11
   have k11 := k10.same s11
   have eK11 := s11.get eK10
   have f11 := s11.get e10
   have enL := Ao.same (AI.hid s11) enL10
   have enD := Enc.same (AI.hid s11) enT
   have lz11 := lz10.same s11
   obtain ⟨xs1, eL1, lL1⟩ := hw11.plen
   clear hw10 tb10 k10 eK10 e10 enL10 enT lz10 s11 n11 e11 ga11 ga0 eD0 q1 xr2 xl
   have l300 := hw11.bch.len
   have lvt := enL.len
   rw [zC, zE, zP] at hlen
   have fr : ∀ {p : Addr}, H11 p = none → H5 p = none := fun {p} n => by
    cases hz : H5 p with
    | none => rfl
    | some u =>
     obtain ⟨u', h⟩ := k11.live _ u hz
     rw [n] at h; cases h
   walk_at "RD"
   refine ⟨_, .inl (SqL.of eL1), ?_⟩
   rw [lL1]
   by_cases c1 : past1.length < e
   ·rw [if_pos (z8 (by lia))]
    refine ⟨_, .inl (SqL.of eL1), by decide, fun KN H12 n12 s12 e12 => ⟨past1.length, by rw [lL1], ⟨_, rfl⟩, ⟨_, rfl⟩, ⟨_, rfl⟩, [.ref D], [_], S1, P1, ow1, k11.same s12, BV tb11 s12, gs1, past1, hw11.same s12, s12.get f11, ⟨e12, (lzL hw11).out n12, ⟨_, _, rfl, Enc.same (AI.hid2 s12 n12) (Enc.same (hid_sub (fun z hz => zD _ hz)) enD), rfl⟩, by rw [zC]; rfl, fun j t' hj => ?_, by simp⟩, fr n12⟩⟩
    match j, hj with
    | 0, hj => cases hj; exact ⟨gs1, by rw [Nat.add_zero, zg (zG _), Nat.sub_self]; rfl, anU⟩
    | j + 1, hj => cases hj
   rw [if_neg (fun z => by have := z6 z; lia)]
   refine ⟨_, .inl (SqL.of eL1), ?_⟩
   rw [lL1]
   by_cases c2 : past.length < past1.length
   ·rw [if_pos (z8 (by lia))]
    have hp := hh2 c2
    have lp := congrArg List.length hp
    rw [zC, zE, zP] at lp
    refine ⟨⟨_, eK11⟩, _, eK11, by rw [PySem.sizeLine_eq]; lia, e, rfl, ⟨_, rfl⟩, ⟨_, rfl⟩, ⟨_, rfl⟩, vs ++ [.ref D], ts ++ [_], S1, P1, ow1, k11.updN n5, Tbl_updL tb11 eK11, gs1, past1, hw11.updL eK11 nK9, (AL (fun z => by rw [z, eK11] at f11; cases f11)).trans f11, ⟨AN, nK9, Ao.snoc (Enc.same (hid_upd (by simp)) enD) (Ao.same (hid_upd (by simp)) enL), by simp only [zC, zE, zP]; lia, fun j t' hj => ?_, by simp⟩, n5⟩
    rcases Nat.lt_or_ge j ts.length with hl | hl
    ·rw [qF hl] at hj
     obtain ⟨g, h1, h2⟩ := han j t' hj
     exact ⟨g, by rw [hp, qF (by rw [zC, zE, zP]; lia)]; exact h1, h2⟩
    ·rw [zg hl] at hj
     match hq : j - ts.length, hj with
     | 0, hj =>
      cases hj
      refine ⟨gs1, ?_, anU⟩
      rw [zg (by lia), show e + j - past1.length = 0 by lia]; rfl
     | n + 1, hj => cases hj
   rw [if_neg (fun z => by have := z6 z; lia)]
   have hp := hh1 (by lia)
   have look : ∀ k, k < past1.length + 1 → (past1 ++ [gs1])[k]? = (past ++ [gs])[k]? := fun k hk => by rw [hp, qG hk]
   refine ⟨_, .inl (SqL.of eL1), _, SqL.of eK11, fun KN H12 n12 s12 e12 => ?_⟩
   rw [lL1, show (past1.length : Int) - (e : Int) + 1 = ((past1.length - e + 1 : Nat) : Int) by lia, F5] at e12
   have en3 := Ao.take enL (past1.length - e + 1)
   have lt3 : (ts.take (past1.length - e + 1)).length = past1.length - e + 1 := by rw [zh]; lia
   have hx : past1.length - e < (ts.take (past1.length - e + 1)).length := by lia
   obtain ⟨va, ga, ea⟩ := en3.get (z4 hx)
   have hx2 := z4 hx
   rw [qG (by lia)] at hx2
   obtain ⟨g, hg1, hg2⟩ := han _ _ hx2
   rw [show e + (past1.length - e) = past1.length by lia, ← look _ (by lia), zg (zG _), Nat.sub_self] at hg1
   cases hg1
   have eu := hg2.uniq hw11.bch.std.asc anU
   rw [eu] at ea
   have lv3 := en3.len
   have okd := anU.okd (by lia) (by have := zw (Jk x y z0 v0) gs1; rw [AT, z5]; lia)
   refine ⟨_, .inl (SqL.of e12), _, SqL.of e12, va, ?_, _, va, .ref D, rfl, Enc.same s12 (Enc.same hid_le ea), Enc.same s12 (Enc.same hid_le enD), okd, by decide, fun H13 s13 => ⟨true, rfl, ?_⟩⟩
   ·rw [lv3, lt3, show ((past1.length - e + 1 : Nat) : Int) - 1 = ((past1.length - e : Nat) : Int) by lia]
    exact Dp ga
   rw [if_neg (by decide)]
   have s113 := s12.trans s13
   refine ⟨e, rfl, ⟨_, rfl⟩, ⟨_, rfl⟩, ⟨_, rfl⟩, _, _, S1, P1, ow1, k11.same s113, BV tb11 s113, gs1, past1, hw11.same s113, s113.get f11, ⟨s13.get e12, (lzL hw11).out n12, Ao.same (AI.hid s13) (Ao.same (AI.hid2 s12 n12) (Ao.same (hid_sub (fun z hz => zD _ hz)) en3)), by rw [lt3, zC, zE, zP]; lia, fun j t' hj => ?_, by lia⟩, fr n12⟩
   have hjl := (zA.mp hj).1
   rw [qG (by lia)] at hj
   obtain ⟨g, h1, h2⟩ := han j t' hj
   exact ⟨g, by rw [look _ (by lia)]; exact h1, h2⟩
  clear k9 hw9 tb9 sc9 e79 hi9
  rintro σ H7 ⟨e, KH, vs, ts, o8, o9, o10, S, P, ow, gs, past, rfl, kt, tb7, hw, e7, his, n5⟩
  refine hM0 _ _ ?_
  clear hM0 M0
  have l40 := hw.bch.std.len
  have hlen := his.len
  have hpos := his.pos
  have lvt := his.en.len
  rw [zC, zE, zP] at hlen
  have hx : ts.length - 1 < ts.length := by lia
  obtain ⟨va, ga, ea⟩ := his.en.get (z4 hx)
  obtain ⟨g, hg1, hg2⟩ := his.an _ _ (z4 hx)
  rw [show e + (ts.length - 1) = past.length by lia, zg (zG _), Nat.sub_self] at hg1
  cases hg1
  obtain ⟨xr, ap, et⟩ := hg2.at_
  rw [et] at ea
  obtain ⟨D, v1, rfl, q1, v2, vr, rfl, x2, xr2⟩ := Enc.same hid_le ea
  obtain ⟨D0, vs0, rfl, eD0, xl⟩ := x2
  obtain ⟨as0, rfl, ga0⟩ := R9 xl
  walk_at "RD"
  refine ⟨_, .inl (SqL.of his.eK), _, SqL.of his.eK, .ref D, ?_, ?_⟩
  ·rw [lvt, show (ts.length : Int) - 1 = ((ts.length - 1 : Nat) : Int) by lia]
   exact Dp ga
  refine ⟨D, rfl, _, SqL.of q1, _, Dp (j := 0) rfl, d, gs, rfl, hw.dk, hw.bch.std, fun R H8 as n8 s8 e8 ga8 => ?_⟩
  exact ⟨D0, R, as0, as, gs, rfl, s8.get eD0, SqL.of e8, ga0.same s8, ga8, by lia, k _⟩
end
theorem all_of {l : W.OpenLaw} {w : World} {K : W.Frag} {h : Heap} {mg : Str → Option Value} {fa : Addr} (KO : SB K = UW) (X : K.In h) (G : h.Ns mainGlobals mg) (hfa : mg "law" = some (.ref fa)) :
  ∃ fd : FuncData, (∀ (s : Shared) (v : Value), BindsTo s fd ⟨[v], []⟩ [("_law_script", v)]) ∧ (∀ h', K.In h' → isCodeTable h' CG) ∧ ∀ base : Heap, K.In base → base.Ns mainGlobals mg → Af l.prog w K mg base CX0 12 fa fd ["_law_script"] (Sd K) := by
 obtain ⟨g0, KO⟩ := zv KO
 obtain ⟨g1, KO⟩ := zv KO
 obtain ⟨g2, KO⟩ := zv KO
 obtain ⟨g3, KO⟩ := zv KO
 obtain ⟨g4, KO⟩ := zv KO
 obtain ⟨g5, KO⟩ := zv KO
 obtain ⟨g6, KO⟩ := zv KO
 obtain ⟨g7, KO⟩ := zv KO
 obtain ⟨g8, KO⟩ := zv KO
 obtain ⟨g9, KO⟩ := zv KO
 obtain ⟨g10, KO⟩ := zv KO
 obtain ⟨g11, KO⟩ := zv KO
 obtain ⟨g12, KO⟩ := zv KO
 have g13 := KO
 obtain ⟨h1, h2, h3, h4, h5, h6, h7, h8⟩ := M3 g0
 obtain ⟨h9, h10, h11, h12, h13, h14, h41, h90⟩ := M3 g1
 obtain ⟨h91, h92, h93, h94, h95, h96, h97, h98⟩ := M3 g2
 obtain ⟨h99, h100, h101, h102, h103, h104, h105⟩ := inj7 g3
 obtain ⟨h15, h16, h17, h18, h19, h20, h21, h22⟩ := M3 g4
 obtain ⟨h23, h24, h25, h26, h27, h28, h29, h30⟩ := M3 g5
 obtain ⟨h31, h32, h33, h34, h35, h36, h37, h38⟩ := M3 g6
 obtain ⟨h39, h40, h42, h43, h44, h45, h46, h47⟩ := M3 g7
 obtain ⟨h48, h49, h50, h51, h52, h53, h54, h55⟩ := M3 g8
 obtain ⟨h56, h57, h58, h59, h60, h61, h62, h63⟩ := M3 g9
 obtain ⟨h64, h65, h66, h67, h68, h69, h70, h71⟩ := M3 g10
 obtain ⟨h72, h73, h74, h75, h76, h77, h78, h79⟩ := M3 g11
 obtain ⟨h80, h81, h82, h83⟩ := inj4 g12
 obtain ⟨h84, h85, h86, h87, h88, h89⟩ := inj6 g13
 obtain ⟨AQ, aC_Beach, pg_Beach, hd_Beach, po_Beach, sa_Beach, Mv, kc_Beach, na_Beach⟩ := Wo h1
 obtain ⟨Dt, aC_BeachError, ex_BeachError⟩ := CH h2
 obtain ⟨FP, aC_NoGate, ex_NoGate⟩ := CH h3
 obtain ⟨IF, aC_Taken, ex_Taken⟩ := CH h4
 obtain ⟨B3, aC_UpsideDown, ex_UpsideDown⟩ := CH h5
 obtain ⟨Bn, aC_OutOfBounds, ex_OutOfBounds⟩ := CH h6
 obtain ⟨CP, aC_BeachFull, ex_BeachFull⟩ := CH h7
 obtain ⟨CQ, aC_DeedsFull, ex_DeedsFull⟩ := CH h8
 obtain ⟨Bm, aC_NothingBack, ex_NothingBack⟩ := CH h9
 obtain ⟨Dy, aC_BadList, ex_BadList⟩ := CH h10
 obtain ⟨FZ, aC_TooFew, ex_TooFew⟩ := CH h11
 obtain ⟨CS, aC_WrongSize, ex_WrongSize⟩ := CH h12
 obtain ⟨Co, aC_BadThrow, ex_BadThrow⟩ := CH h13
 obtain ⟨f1, fd1, d1⟩ := Ad (ps := ["place", "height", "start", "end"]) X G h15 fun _ _ _ _ _ _ us hl => by walk_at "b4"
 obtain ⟨f2, fd2, d2⟩ := Ad (ps := ["one", "two", "three"]) X G h16 fun _ _ _ _ _ _ us hl => by walk_at "b3"
 obtain ⟨f3, fd3, d3⟩ := Ad (ps := ["gates"]) X G h17 fun _ _ _ _ _ _ us hl => by walk_at "b1"
 obtain ⟨f4, fd4, d4⟩ := Ad (ps := ["one", "two"]) X G h18 fun _ _ _ _ _ _ us hl => by walk_at "b2"
 obtain ⟨f5, fd5, d5⟩ := Ad (ps := ["top", "bottom"]) X G h19 fun _ _ _ _ _ _ us hl => by walk_at "b2"
 obtain ⟨f6, fd6, d6⟩ := Ad (ps := ["one", "two"]) X G h20 fun _ _ _ _ _ _ us hl => by walk_at "b2"
 obtain ⟨f7, fd7, d7⟩ := Ad (ps := ["throw", "place"]) X G h21 fun _ _ _ _ _ _ us hl => by walk_at "b2"
 obtain ⟨f8, fd8, d8⟩ := Ad (ps := ["place", "height", "other", "second"]) X G h22 fun _ _ _ _ _ _ us hl => by walk_at "b4"
 obtain ⟨f9, fd9, d9⟩ := Ad (ps := ["throw", "gate"]) X G h23 fun _ _ _ _ _ _ us hl => by walk_at "b2"
 obtain ⟨f10, fd10, d10⟩ := Ad (ps := ["throw", "gates"]) X G h24 fun _ _ _ _ _ _ us hl => by walk_at "b2"
 obtain ⟨f11, fd11, d11⟩ := Ad (ps := ["throw", "ordered"]) X G h25 fun _ _ _ _ _ _ us hl => by walk_at "b2"
 obtain ⟨f12, fd12, d12⟩ := Ad (ps := ["earlier", "later"]) X G h26 fun _ _ _ _ _ _ us hl => by walk_at "b2"
 obtain ⟨f13, fd13, d13⟩ := Ad (ps := ["ordered"]) X G h27 fun _ _ _ _ _ _ us hl => by walk_at "b1"
 obtain ⟨f14, fd14, d14⟩ := Ad (ps := ["ordered"]) X G h28 fun _ _ _ _ _ _ us hl => by walk_at "b1"
 obtain ⟨f15, fd15, d15⟩ := Ad (ps := ["height"]) X G h29 fun _ _ _ _ _ _ us hl => by walk_at "b1"
 obtain ⟨f16, fd16, d16⟩ := Ad (ps := ["ordered"]) X G h30 fun _ _ _ _ _ _ us hl => by walk_at "b1"
 obtain ⟨f17, fd17, d17⟩ := Ad (ps := ["gates"]) X G h31 fun _ _ _ _ _ _ us hl => by walk_at "b1"
 obtain ⟨f18, fd18, d18⟩ := Ad (ps := ["gates"]) X G h32 fun _ _ _ _ _ _ us hl => by walk_at "b1"
 obtain ⟨f19, fd19, d19⟩ := Ad (ps := ["gates"]) X G h33 fun _ _ _ _ _ _ us hl => by walk_at "b1"
 obtain ⟨f20, fd20, d20⟩ := Ad (ps := ["gate"]) X G h34 fun _ _ _ _ _ _ us hl => by walk_at "b1"
 obtain ⟨f21, fd21, d21⟩ := Ad (ps := ["throw"]) X G h35 fun _ _ _ _ _ _ us hl => by walk_at "b1"
 obtain ⟨f22, fd22, d22⟩ := Ad (ps := ["gates"]) X G h36 fun _ _ _ _ _ _ us hl => by walk_at "b1"
 obtain ⟨f23, fd23, d23⟩ := Ad (ps := ["run", "throw"]) X G h37 fun _ _ _ _ _ _ us hl => by walk_at "b2"
 obtain ⟨f24, fd24, d24⟩ := Ad (ps := ["gates"]) X G h38 fun _ _ _ _ _ _ us hl => by walk_at "b1"
 obtain ⟨f25, fd25, d25⟩ := Ad (ps := ["ordered"]) X G h39 fun _ _ _ _ _ _ us hl => by walk_at "b1"
 obtain ⟨f26, fd26, d26⟩ := Ad (ps := ["gates"]) X G h40 fun _ _ _ _ _ _ us hl => by walk_at "b1"
 obtain ⟨c26, la26, isT⟩ := LM.WY X G d26 h41
 obtain ⟨f27, fd27, d27⟩ := Ad (ps := ["gate"]) X G h42 fun _ _ _ _ _ _ us hl => by walk_at "b1"
 obtain ⟨f28, fd28, d28⟩ := Ad (ps := ["places"]) X G h43 fun _ _ _ _ _ _ us hl => by walk_at "b1"
 obtain ⟨f29, fd29, d29⟩ := Ad (ps := ["throw"]) X G h44 fun _ _ _ _ _ _ us hl => by walk_at "b1"
 obtain ⟨f30, fd30, d30⟩ := Bs (ps := ["self"]) aC_Beach h45 fun _ _ _ _ _ _ us hl => by walk_at "b1"
 obtain ⟨f31, fd31, d31⟩ := Bs (ps := ["self", "place"]) aC_Beach h46 fun _ _ _ _ _ _ us hl => by walk_at "b2"
 obtain ⟨f32, fd32, d32⟩ := Bs (ps := ["self", "place"]) aC_Beach h47 fun _ _ _ _ _ _ us hl => by walk_at "b2"
 obtain ⟨f33, fd33, d33⟩ := Bs (ps := ["self", "place", "instead"]) aC_Beach h48 fun _ _ _ _ _ _ us hl => by walk_at "b3"
 obtain ⟨f34, fd34, d34⟩ := Bs (ps := ["self", "place", "foot", "head"]) aC_Beach h49 fun _ _ _ _ _ _ us hl => by walk_at "b4"
 obtain ⟨f35, fd35, d35⟩ := Bs (ps := ["self", "place"]) aC_Beach h50 fun _ _ _ _ _ _ us hl => by walk_at "b2"
 obtain ⟨f36, fd36, d36⟩ := Bs (ps := ["self", "place", "foot_by", "head_by"]) aC_Beach h51 fun _ _ _ _ _ _ us hl => by walk_at "b4"
 obtain ⟨f37, fd37, d37⟩ := Bs (ps := ["self", "place", "foot_by", "head_by"]) aC_Beach h52 fun _ _ _ _ _ _ us hl => by walk_at "b4"
 obtain ⟨f38, fd38, d38⟩ := WI (ps := ["self", "many"]) aC_Beach h53 (fun s d _ _ _ _ _ _ _ _ _ _ _ us ho hl => by obtain ⟨x0, x1, rfl⟩ := ZG hl; exact BindsTo.of_defaults (T := d) rfl ho rfl rfl rfl) (fun s d _ _ _ _ _ _ _ _ _ _ _ us ho hl => by obtain ⟨x0, rfl⟩ := YL (Nat.succ.inj hl); exact BindsTo.of_defaults (T := d) rfl ho rfl rfl rfl)
 obtain ⟨f39, fd39, d39⟩ := Bs (ps := ["self"]) aC_Beach h54 fun _ _ _ _ _ _ us hl => by walk_at "b1"
 obtain ⟨f40, fd40, d40⟩ := Bs (ps := ["self"]) aC_Beach h55 fun _ _ _ _ _ _ us hl => by walk_at "b1"
 obtain ⟨f41, fd41, d41⟩ := Bs (ps := ["self", "places"]) aC_Beach h56 fun _ _ _ _ _ _ us hl => by walk_at "b2"
 obtain ⟨f42, fd42, d42⟩ := Bs (ps := ["self", "places"]) aC_Beach h57 fun _ _ _ _ _ _ us hl => by walk_at "b2"
 obtain ⟨f43, fd43, d43⟩ := Bs (ps := ["self", "places"]) aC_Beach h58 fun _ _ _ _ _ _ us hl => by walk_at "b2"
 obtain ⟨f44, fd44, d44⟩ := Bs (ps := ["self", "places"]) aC_Beach h59 fun _ _ _ _ _ _ us hl => by walk_at "b2"
 obtain ⟨f45, fd45, d45⟩ := Bs (ps := ["self", "places"]) aC_Beach h60 fun _ _ _ _ _ _ us hl => by walk_at "b2"
 obtain ⟨f46, fd46, d46⟩ := Bs (ps := ["self"]) aC_Beach h61 fun _ _ _ _ _ _ us hl => by walk_at "b1"
 obtain ⟨f47, fd47, d47⟩ := Bs (ps := ["self"]) aC_Beach h62 fun _ _ _ _ _ _ us hl => by walk_at "b1"
 obtain ⟨f48, fd48, d48⟩ := Bs (ps := ["self", "throw"]) aC_Beach h63 fun _ _ _ _ _ _ us hl => by walk_at "b2"
 obtain ⟨f49, fd49, d49⟩ := Ad (ps := ["_law_script", "_law_k"]) X G h64 fun _ _ _ _ _ _ us hl => by walk_at "b2"
 obtain ⟨f50, fd50, d50⟩ := Ad (ps := ["_law_cell", "_law_many", "_law_mixed"]) X G h65 fun _ _ _ _ _ _ us hl => by walk_at "b3"
 obtain ⟨f51, fd51, d51⟩ := Ad (ps := ["_law_kind", "_law_line", "_law_wide", "_law_low", "_law_high"]) X G h66 fun _ _ _ _ _ _ us hl => by walk_at "b5"
 obtain ⟨f52, fd52, d52⟩ := Ad (ps := ["_law_script", "_law_at_here", "_law_many"]) X G h67 fun _ _ _ _ _ _ us hl => by walk_at "b3"
 obtain ⟨f53, fd53, d53⟩ := Ad (ps := ["_law_found"]) X G h68 fun _ _ _ _ _ _ us hl => by walk_at "b1"
 obtain ⟨f54, fd54, d54⟩ := Ad (ps := ["_law_found", "_law_due"]) X G h69 fun _ _ _ _ _ _ us hl => by walk_at "b2"
 obtain ⟨f55, fd55, d55⟩ := Ad (ps := ["_law_stands", "_law_deed_here"]) X G h70 fun _ _ _ _ _ _ us hl => by walk_at "b2"
 obtain ⟨f56, fd56, d56⟩ := Ad (ps := ["_law_stands", "_law_past", "_law_deed_here"]) X G h71 fun _ _ _ _ _ _ us hl => by walk_at "b3"
 obtain ⟨f57, fd57, d57⟩ := Ad (ps := ["_law_beach", "_law_deed_here"]) X G h72 fun _ _ _ _ _ _ us hl => by walk_at "b2"
 obtain ⟨f58, fd58, d58⟩ := Ad (ps := ["_law_stands", "_law_past", "_law_deed_here"]) X G h73 fun _ _ _ _ _ _ us hl => by walk_at "b3"
 obtain ⟨f59, fd59, d59⟩ := Ad (ps := ["_law_beach", "_law_stands", "_law_past", "_law_deed_here"]) X G h74 fun _ _ _ _ _ _ us hl => by walk_at "b4"
 obtain ⟨f60, fd60, d60⟩ := Ad (ps := ["_law_script"]) X G h75 fun _ _ _ _ _ _ us hl => by walk_at "b1"
 obtain ⟨f61, fd61, d61⟩ := Ad (ps := ["_law_beach", "_law_stands", "_law_past", "_law_script", "_law_most"]) X G h76 fun _ _ _ _ _ _ us hl => by walk_at "b5"
 obtain ⟨f62, fd62, d62⟩ := Ad (ps := ["_law_draw"]) X G h77 fun _ _ _ _ _ _ us hl => by walk_at "b1"
 obtain ⟨f63, fd63, d63⟩ := Ad (ps := ["_law_script", "_law_k", "_law_stands", "_law_past"]) X G h78 fun _ _ _ _ _ _ us hl => by walk_at "b4"
 obtain ⟨f64, fd64, d64⟩ := Ad (ps := ["_law_stands"]) X G h79 fun _ _ _ _ _ _ us hl => by walk_at "b1"
 obtain ⟨f65, fd65, d65⟩ := Ad (ps := ["_law_found", "_law_due"]) X G h80 fun _ _ _ _ _ _ us hl => by walk_at "b2"
 obtain ⟨f66, fd66, d66⟩ := Ad (ps := ["_law_beach", "_law_stands", "_law_throw", "_law_turned"]) X G h81 fun _ _ _ _ _ _ us hl => by walk_at "b4"
 obtain ⟨f67, fd67, d67⟩ := Ad (ps := ["_law_one", "_law_two", "_law_deep"]) X G h82 fun _ _ _ _ _ _ us hl => by walk_at "b3"
 obtain ⟨f68, oc, od, sl, kV, dc, pm, an, cd, ct, a, l, c, k⟩ := S8 h83
 obtain ⟨t_LEAST, ak_LEAST⟩ := IL h84
 obtain ⟨t_GREATEST, ak_GREATEST⟩ := IL h85
 obtain ⟨t_MOST_GATES, ak_MOST_GATES⟩ := IL h86
 obtain ⟨t_MOST_DEEDS, ak_MOST_DEEDS⟩ := IL h87
 obtain ⟨t_SMALL_BEACH, ak_SMALL_BEACH⟩ := IL h88
 obtain ⟨t_GREAT_NUMBER, ak_GREAT_NUMBER⟩ := IL h89
 have e := hfa.symm.trans (W.mg_of X G a)
 cases e
 let T : Tx K mg := ⟨AQ,
  W.mg_of X G aC_Beach,
  ⟨pg_Beach, hd_Beach, po_Beach, sa_Beach⟩,
  na_Beach "standing" (by simp only [zL, true_or, or_true]),
  na_Beach "past" (by simp only [zL, true_or, or_true]),
  Dt,
  W.mg_of X G aC_BeachError,
  ex_BeachError,
  FP,
  W.mg_of X G aC_NoGate,
  ex_NoGate,
  IF,
  W.mg_of X G aC_Taken,
  ex_Taken,
  B3,
  W.mg_of X G aC_UpsideDown,
  ex_UpsideDown,
  Bn,
  W.mg_of X G aC_OutOfBounds,
  ex_OutOfBounds,
  CP,
  W.mg_of X G aC_BeachFull,
  ex_BeachFull,
  CQ,
  W.mg_of X G aC_DeedsFull,
  ex_DeedsFull,
  Bm,
  W.mg_of X G aC_NothingBack,
  ex_NothingBack,
  Dy,
  W.mg_of X G aC_BadList,
  ex_BadList,
  FZ,
  W.mg_of X G aC_TooFew,
  ex_TooFew,
  CS,
  W.mg_of X G aC_WrongSize,
  ex_WrongSize,
  Co,
  W.mg_of X G aC_BadThrow,
  ex_BadThrow,
  VO (.cons aC_NoGate (.cons aC_Taken (.cons aC_UpsideDown (.cons aC_OutOfBounds (.cons aC_BeachFull (.cons aC_DeedsFull (.cons aC_NothingBack (.cons aC_BadList (.cons aC_TooFew (.cons aC_WrongSize (.cons aC_BadThrow .nil))))))))))) h14,
  f1, fd1, d1,
  f2, fd2, d2,
  f3, fd3, d3,
  f4, fd4, d4,
  f5, fd5, d5,
  f6, fd6, d6,
  f7, fd7, d7,
  f8, fd8, d8,
  f9, fd9, d9,
  f10, fd10, d10,
  f11, fd11, d11,
  f12, fd12, d12,
  f13, fd13, d13,
  f14, fd14, d14,
  f15, fd15, d15,
  f16, fd16, d16,
  f17, fd17, d17,
  f18, fd18, d18,
  f19, fd19, d19,
  f20, fd20, d20,
  f21, fd21, d21,
  f22, fd22, d22,
  f23, fd23, d23,
  f24, fd24, d24,
  f25, fd25, d25,
  f26, fd26, d26,
  c26, la26,
  f27, fd27, d27,
  f28, fd28, d28,
  f29, fd29, d29,
  f30, fd30, d30,
  f31, fd31, d31,
  f32, fd32, d32,
  f33, fd33, d33,
  f34, fd34, d34,
  f35, fd35, d35,
  f36, fd36, d36,
  f37, fd37, d37,
  f38, fd38, d38,
  f39, fd39, d39,
  f40, fd40, d40,
  f41, fd41, d41,
  f42, fd42, d42,
  f43, fd43, d43,
  f44, fd44, d44,
  f45, fd45, d45,
  f46, fd46, d46,
  f47, fd47, d47,
  f48, fd48, d48,
  f49, fd49, d49,
  f50, fd50, d50,
  f51, fd51, d51,
  f52, fd52, d52,
  f53, fd53, d53,
  f54, fd54, d54,
  f55, fd55, d55,
  f56, fd56, d56,
  f57, fd57, d57,
  f58, fd58, d58,
  f59, fd59, d59,
  f60, fd60, d60,
  f61, fd61, d61,
  f62, fd62, d62,
  f63, fd63, d63,
  f64, fd64, d64,
  f65, fd65, d65,
  f66, fd66, d66,
  f67, fd67, d67,
  _, _, ⟨LC l c k, W.mg_of X G a, (LC l c k).binds (ps := ["_law_script"]) fun _ _ _ _ _ _ us hl => by walk_at "b1"⟩,
  ⟨Mv, d30.mt.1, d30.mt.2, kc_Beach⟩,
  _,
  W.mg_of X G ak_LEAST,
  ⟨_, rfl⟩,
  _,
  W.mg_of X G ak_GREATEST,
  ⟨_, rfl⟩,
  _,
  W.mg_of X G ak_MOST_GATES,
  ⟨_, rfl⟩,
  _,
  W.mg_of X G ak_MOST_DEEDS,
  ⟨_, rfl⟩,
  _,
  W.mg_of X G ak_SMALL_BEACH,
  ⟨_, rfl⟩,
  _,
  W.mg_of X G ak_GREAT_NUMBER,
  ⟨_, rfl⟩,
  W.mg_none_of X G (BS h90),
  W.mg_none_of X G (BS h91),
  W.mg_none_of X G (BS h92),
  W.mg_none_of X G (BS h93),
  W.mg_none_of X G (BS h94),
  W.mg_none_of X G (BS h95),
  W.mg_none_of X G (BS h96),
  W.mg_none_of X G (BS h97),
  W.mg_none_of X G (BS h98),
  W.mg_none_of X G (BS h99),
  W.mg_none_of X G (BS h100),
  W.mg_none_of X G (BS h101),
  W.mg_none_of X G (BS h102),
  W.mg_none_of X G (BS h103),
  W.mg_none_of X G (BS h104),
  W.mg_none_of X G (BS h105)⟩
 exact ⟨_, fun s v => .of_eq rfl, isT, fun base _ _ => Ze T⟩
end TG
open PySem PySem.W PyProof.Rows
set_option maxRecDepth 100000 in
set_option maxHeartbeats 0 in
theorem PySem.Challenge.cw_throwgate_k43_whole_taken_back_holds : PySem.Challenge.rw_throwgate_k43_whole_taken_back.Holds := by
 w_on; o_law
 refine holds_open (q := TG.qv) (loose := TG.LH) (Xt := fun _ => true) (XP := fun _ _ => True) (Yf := fun s => (LM.G4 (s.heap.get? TG.CG), TG.SB (TG.Kof TG.addrs s.heap))) (Ya := fun _ => (true, TG.UW)) (YP := LM.J9 TG.CG TG.addrs TG.SB TG.UW) (N := 10214) TG.WE (fun w s e => LM.J9.of (by decide) w s e) LM.J9.keeps (fun _ _ => trivial) (fun _ _ _ _ _ => trivial) (by rfl) (by rfl) (by rfl) (fun _ _ => TG.YF rfl) rfl (by assumption) (by decide +kernel) ⟨rfl, rfl, rfl, rfl, rfl, by decide +kernel⟩ ?hw ?hc
 case hw => w_witness2
 case hc =>
  exact LM.Us (T := TG.CG) (l := PySem.Challenge.rw_throwgate_k43_whole_taken_back) (n := 63) (k := 12) (x := "_law_script") (CX := L2.CX0) (sp := TG.Sd) rfl (by decide) rfl ⟨rfl, by decide, by decide⟩ (fun w mg fa h K KO KX G hmg => TG.all_of KO KX G hmg) (fun _ _ a ns hl hO hS => ⟨a, ns, rfl, hS, hl, .inl hO.1, fun _ => rfl⟩) fun _ _ _ _ z => z
