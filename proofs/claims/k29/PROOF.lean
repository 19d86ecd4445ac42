import PyProof.Rows.All
import Wide.All
import OpenK.AllK
import Wide.FinOn
import Lean
import PyProof.EqAt
import PyProof.EqKinds
import PyProof.TupleCall
import KE.KMinKey
import KE.KIntText
import PyProof.MeetsStr2
import PyProof.FString
import PyProof.FString2
import PyProof.StrLawsTight
import PyProof.StrLawsIdx
import PyProof.StrBlockL
import PyProof.StrBlock2
import PyProof.Rows.StrJoin2
import PyProof.Rows.StrBin
import PyProof.Rows.StrItems
import KE.IntTextText
import Open.Fast
import KE.KIsAll
import PyProof.NsDelKeeps
import PyProof.ExcArgsOwn
import PySem.Challenge.RW_throwgate_k29_classes
set_option bootstrap.genMatcherCode false
set_option genSizeOf false
set_option compiler.small 0
set_option Elab.async false
set_option linter.all false
set_option maxRecDepth 100000
noncomputable abbrev z0 := @List.getElem?_eq_getElem
noncomputable abbrev z4 := @of_decide_eq_true
noncomputable abbrev z5 := @decide_eq_true
noncomputable abbrev z6 := @List.length_map
noncomputable abbrev z7 := @PySem.Heap.get?_push_of_some
noncomputable abbrev z8 := @List.getElem?_eq_some_iff
noncomputable abbrev z9 := @Nat.lt_of_lt_of_le
noncomputable abbrev zA := @PySem.Heap.lt_size
noncomputable abbrev zB := @Nat.le_refl
noncomputable abbrev zC := @List.mem_cons_of_mem
noncomputable abbrev zD := @List.mem_singleton
noncomputable abbrev zE := @List.getD_eq_getElem?_getD
noncomputable abbrev zF := @Int.mul_le_mul_of_nonneg_right
noncomputable abbrev zG := @List.getElem?_map
noncomputable abbrev zH := @List.mem_cons
noncomputable abbrev zI := @Option.some.inj
noncomputable abbrev zJ := @List.size_toArray
noncomputable abbrev zK := @List.take_succ_eq_append_getElem
noncomputable abbrev zL := @Nat.le_trans
noncomputable abbrev zM := @PySem.Heap.get?_push_size
noncomputable abbrev zN := @Bool.false_ne_true
noncomputable abbrev zO := @List.mem_append_right
noncomputable abbrev zP := @Nat.ne_of_lt
noncomputable abbrev zQ := @List.mem_cons_self
noncomputable abbrev zR := @List.getElem_mem
noncomputable abbrev zS := @Array.getD_eq_getD_getElem?
noncomputable abbrev zT := @List.mem_of_getElem?
noncomputable abbrev zU := @List.length_cons
noncomputable abbrev zV := @decide_eq_false
noncomputable abbrev zW := @List.length_append
noncomputable abbrev zX := @List.mem_map
noncomputable abbrev zY := @Int.mul_le_mul_of_nonneg_left
noncomputable abbrev zZ := @Int.le_of_mul_le_mul_left
noncomputable abbrev za := @Option.map_eq_some_iff
noncomputable abbrev zb := @List.map_cons
noncomputable abbrev zc := @Nat.zero_le
noncomputable abbrev zd := @List.mem_iff_getElem?
noncomputable abbrev ze := @Prod.mk.inj
noncomputable abbrev zf := @Nat.lt_irrefl
noncomputable abbrev zg := @List.mem_append
noncomputable abbrev zh := @List.length_drop
noncomputable abbrev zi := @Nat.ne_of_gt
noncomputable abbrev zj := @List.map_append
noncomputable abbrev zk := @Bool.false_eq_true
noncomputable abbrev zm := @List.take_length
noncomputable abbrev zn := @Bool.and_eq_true_iff
noncomputable abbrev zo := @List.filterMap_cons
noncomputable abbrev zp := @List.mem_filter
noncomputable abbrev zr := @List.cons.injEq
noncomputable abbrev zt := @Array.getElem?_eq_getElem
noncomputable abbrev zv := @List.all_eq_true
noncomputable abbrev zw := @List.map_map
noncomputable abbrev zx := @Int.le_of_lt
noncomputable abbrev zy := @List.mem_append_left
noncomputable abbrev zz := @List.pairwise_map
noncomputable abbrev q9 := @Bool.and_eq_true
noncomputable abbrev qA := @List.filter_cons
noncomputable abbrev qB := @Option.join_some
noncomputable abbrev qC := @List.filter_append
noncomputable abbrev qD := @Bool.eq_iff_iff
namespace L2
open PySem PySem.Spec PyProof.Rows
noncomputable abbrev Key := Sum Int Str
noncomputable def Sy : Key → Value → Bool
 | .inl k, v => Value.isInt k v
 | .inr x, v => Value.isStrOf x v
noncomputable def keyH (w : World) : Key → Int
 | .inl k => hashInt k
 | .inr x => hashStr w x
theorem BJ : ∀ {k : Key} {v : Value}, Sy k v = true → (∃ i t, k = Sum.inl i ∧ v = Value.int i t) ∨ (∃ x t, k = Sum.inr x ∧ v = Value.str x t)
 | .inl i, v, h => by
  obtain ⟨t, e⟩ := Value.isInt_shape (k := i) (v := v) h
  exact .inl ⟨i, t, rfl, e⟩
 | .inr x, v, h => by
  obtain ⟨t, e⟩ := Value.isStrOf_shape (x := x) (v := v) h
  exact .inr ⟨x, t, rfl, e⟩
theorem Vs (a b : Int) : decide ((Sum.inl a : Key) = Sum.inl b) = (a == b) := by
 by_cases e : a = b
 ·subst e; simp
 ·have h : ¬ (Sum.inl a : Key) = Sum.inl b := fun q => e (Sum.inl.inj q)
  rw [zV h]
  exact (beq_eq_false_iff_ne.mpr e).symm
theorem Ub (a b : Str) : decide ((Sum.inr a : Key) = Sum.inr b) = decide (a = b) := by
 by_cases e : a = b
 ·subst e; simp
 ·have h : ¬ (Sum.inr a : Key) = Sum.inr b := fun q => e (Sum.inr.inj q)
  rw [zV h, zV e]
theorem VC (a : Int) (b : Str) : decide ((Sum.inl a : Key) = Sum.inr b) = false := zV (fun q => nomatch q)
theorem T9 (a : Str) (b : Int) : decide ((Sum.inr a : Key) = Sum.inl b) = false := zV (fun q => nomatch q)
noncomputable def PZ (prog : Program) (w : World) : PySem.KeyKind prog w Key where
 is := Sy
 hash := keyH w
 inj := fun v a b ha hb => by
  rcases BJ ha with ⟨i, t, rfl, rfl⟩ | ⟨x, t, rfl, rfl⟩
  ·rcases BJ hb with ⟨j, u, rfl, e⟩ | ⟨y, u, rfl, e⟩
   ·injection e with e1 _; rw [e1]
   ·exact nomatch e
  ·rcases BJ hb with ⟨j, u, rfl, e⟩ | ⟨y, u, rfl, e⟩
   ·exact nomatch e
   ·injection e with e1 _; rw [e1]
 byValue := fun k v h => by
  rcases BJ h with ⟨i, t, rfl, rfl⟩ | ⟨x, t, rfl, rfl⟩ <;> rfl
 pyHash := fun hv h => by
  rcases BJ hv with ⟨i, t, rfl, rfl⟩ | ⟨x, t, rfl, rfl⟩
  ·exact wpAny_pyHash_int h
  ·exact wpAny_pyHash_str h
 eqBool := fun hu hv h => by
  rcases BJ hu with ⟨i, t, rfl, rfl⟩ | ⟨x, t, rfl, rfl⟩
  ·rcases BJ hv with ⟨j, u, rfl, rfl⟩ | ⟨y, u, rfl, rfl⟩
   ·rw [Vs] at h; exact wpAny_eqBool_int h
   ·rw [VC] at h; exact SeqAt.EqAt.int_str i t y u _ _ _ _ h
  ·rcases BJ hv with ⟨j, u, rfl, rfl⟩ | ⟨y, u, rfl, rfl⟩
   ·rw [T9] at h; exact SeqAt.EqAt.str_int x t j u _ _ _ _ h
   ·rw [Ub] at h; exact wpAny_eqBool_str h
 «strs» := fun k x t v h => by
  rcases BJ h with ⟨i, u, rfl, e⟩ | ⟨y, u, rfl, e⟩
  ·exact nomatch e
  ·injection e with e1 _
   subst e1
   cases v <;> rfl
inductive V where
 | non | bl (b : Bool) | int (i : Int) | str (x : Str) | byt (b : Array UInt8) | flt (b : UInt64) | ref (a : Addr) | ty (n : String)
 deriving DecidableEq
noncomputable def RelV : V → Value → Prop
 | .non, u => u = Value.none
 | .bl b, u => u = Value.bool b
 | .int i, u => ∃ t, u = Value.int i t
 | .str x, u => ∃ t, u = Value.str x t
 | .byt b, u => ∃ t, u = Value.bytes b t
 | .flt b, u => ∃ t, u = Value.float b t
 | .ref a, u => u = Value.ref a
 | .ty n, u => u = Value.type n
noncomputable abbrev Ae : List V → List Value → Prop := Paired RelV
theorem Ae.length {xs : List V} {us : List Value} (r : Ae xs us) : xs.length = us.length := Paired.length r
theorem Ae.get : ∀ {xs : List V} {us : List Value} {i : Nat} {x : V}, Ae xs us → xs[i]? = some x → ∃ u, us[i]? = some u ∧ RelV x u
 | _, _, _, _, .nil, e => by simp at e
 | _, _, 0, _, .cons r _, e => by simp at e; subst e; exact ⟨_, rfl, r⟩
 | _, _, i + 1, x, .cons _ t, e => by
  obtain ⟨u, h1, h2⟩ := Ae.get (i := i) (x := x) t (by simpa using e)
  exact ⟨u, by simpa using h1, h2⟩
theorem Ae.append : ∀ {xs ys : List V} {us ws : List Value}, Ae xs us → Ae ys ws → Ae (xs ++ ys) (us ++ ws)
 | _, _, _, _, .nil, s => s
 | _, _, _, _, .cons r t, s => .cons r (Ae.append t s)
theorem Ae.take : ∀ {xs : List V} {us : List Value} (n : Nat), Ae xs us → Ae (xs.take n) (us.take n)
 | _, _, 0, _ => .nil
 | _, _, _ + 1, .nil => .nil
 | _, _, n + 1, .cons r t => .cons r (Ae.take n t)
theorem Ae.drop : ∀ {xs : List V} {us : List Value} (n : Nat), Ae xs us → Ae (xs.drop n) (us.drop n)
 | _, _, 0, r => r
 | _, _, _ + 1, .nil => .nil
 | _, _, n + 1, .cons _ t => Ae.drop n t
noncomputable def MG : Option V → Option Value → Prop
 | some v, some u => RelV v u
 | none, none => True
 | _, _ => False
noncomputable def KV {κ : Type} : List (κ × V) → List (κ × Value) → Prop := Paired fun (p : κ × V) (q : κ × Value) => p.1 = q.1 ∧ RelV p.2 q.2
noncomputable def kV : Key → V
 | .inl i => .int i
 | .inr x => .str x
inductive HO where
 | lst (xs : List V)
 | tup (xs : List V)
 | dK (kvs : List (Key × V)) | dT (kvs : List (List Key × V))
 | set (S : Int → Bool) (n : Nat)
 | ins (C dx : Addr) (fs : List (Str × V))
 | own (x : Addr)
 | xd (fs : List (Str × V))
 | met (f x : Addr)
 | rng (lo hi : Int)
 | frz (o : Obj) (u : HO)
 | tbl (ps : Array Value)
 | ext (φ : Heap → Prop)
noncomputable abbrev Hp := Addr → Option HO
noncomputable def upd (H : Hp) (a : Addr) (o : HO) : Hp := fun b => if b = a then some o else H b
theorem AQ {H : Hp} {a : Addr} {o : HO} : upd H a o a = some o := by unfold upd; rw [if_pos rfl]
theorem AJ {H : Hp} {a b : Addr} {o : HO} (h : b ≠ a) : upd H a o b = H b := by unfold upd; rw [if_neg h]
theorem N1 {H : Hp} {a b : Addr} {o u : HO} (h : H a = some o) (h' : H b = some u) (d : o ≠ u) : a ≠ b := by
 intro e; subst e; rw [h] at h'; exact d (zI h')
theorem Ak {H : Hp} {a b : Addr} {o : HO} (h : H a = some o) (h' : H b = none) : a ≠ b := by
 intro e; subst e; rw [h] at h'; cases h'
section
variable (P : Program) (w : World)
noncomputable def B4 (H : Hp) (h : Heap) (a : Addr) : HO → Prop
 | .lst xs => xs.length ≤ sizeLine ∧ ∃ (its : List Value) (n : Nat), Ae xs its ∧ h.get? a = some { cls := .type "list", data := .seq its.toArray n }
 | .tup xs => xs.length ≤ sizeLine ∧ ∃ its : List Value, Ae xs its ∧ IsTup h a its.toArray
 | .dK kvs => kvs.length ≤ sizeLine ∧ (a == sysModules) = false ∧ ∃ vs, KV kvs vs ∧ h.DictOf (PZ P w) a vs
 | .dT kvs => kvs.length ≤ sizeLine ∧ (a == sysModules) = false ∧ ∃ xs : List (List Key × Addr × Value),
   Paired (fun (p : List Key × V) (q : List Key × Addr × Value) => p.1 = q.1 ∧ H q.2.1 = some (.tup (p.1.map kV)) ∧ RelV p.2 q.2.2) kvs xs ∧
   ∃ o es ep, h.get? a = some o ∧ o.ExactDict ∧ o.data = .dict es ep ∧ es.toList = xs.map (entryOfKey (tupleKind (PZ P w))) ∧ (xs.map (·.1)).Nodup
 | .set S n => h.SetOf (intKind P w) a S n
 | .ins C dx fs => H dx = some (.own a) ∧ fs.length ≤ 1000 ∧ dx ≠ a ∧ h.get? a = some (W.instObj C dx) ∧
   ∃ mA, h.Ns1 dx mA ∧ (∀ f, MG (fs.lookup f) (mA f)) ∧ PySem.Within mA (fs.map (·.1))
 | .own _ => ∃ o, h.get? a = some o
 | .xd fs => ∃ mA, h.Ns1 a mA ∧ ∀ f, MG (fs.lookup f) (mA f)
 | .rng lo hi => ∃ t u v, h.get? a = some { cls := .type "range", data := .fields #[.int lo t, .int hi u, .int 1 v] }
 | .frz o u => h.get? a = some o ∧ B4 H h a u
 | .tbl ps => h.get? a = some { cls := .none, data := .fields ps }
 | .met f x => h.get? a = some (W.methodObj (.ref f) (.ref x))
 | .ext φ => φ h ∧ (∃ o, h.get? a = some o) ∧ ∀ h1 h2 : Heap, φ h1 → (∀ o, h1.get? a = some o → h2.get? a = some o) → φ h2
noncomputable def HOk (H : Hp) (h : Heap) : Prop := ∀ a o, H a = some o → B4 P w H h a o
end
section
variable {P : Program} {w : World} {H H' : Hp} {h h' : Heap} {a : Addr} {o : HO}
theorem B4.lt (x : B4 P w H h a o) : a < h.objs.size := by
 cases o with
 | lst xs => obtain ⟨_, _, _, _, e⟩ := x; exact zA e
 | tup xs => obtain ⟨_, _, _, p⟩ := x; exact p.lt
 | dK kvs => obtain ⟨_, _, _, _, o, _, _, e, _⟩ := x; exact zA e
 | dT kvs => obtain ⟨_, _, _, _, o, _, _, e, _⟩ := x; exact zA e
 | set S n => obtain ⟨o, _, _, _, e, _⟩ := x; exact zA e
 | ins C dx fs => obtain ⟨_, _, _, e, _⟩ := x; exact zA e
 | own y => obtain ⟨_, e⟩ := x; exact zA e
 | xd fs => obtain ⟨_, ⟨_, _, _, e, _⟩, _⟩ := x; exact zA e
 | rng lo hi => obtain ⟨_, _, _, e⟩ := x; exact zA e
 | frz ob u => obtain ⟨e, _⟩ := x; exact zA e
 | tbl ps => exact zA (show h.get? a = some _ from x)
 | met f y => exact zA (show h.get? a = some _ from x)
 | ext φ => obtain ⟨_, ⟨_, e⟩, _⟩ := x; exact zA e
theorem Paired.mapP {α β : Type} {F G : α → β → Prop} : ∀ {l₁ : List α} {l₂ : List β}, Paired F l₁ l₂ → (∀ a b, F a b → G a b) → Paired G l₁ l₂
 | _, _, .nil, _ => .nil
 | _, _, .cons r t, f => .cons (f _ _ r) (Paired.mapP t f)
theorem B4.stay (x : B4 P w H h a o) (k : ∀ b u, (b = a ∨ H b = some (.own a)) → h.get? b = some u → h'.get? b = some u)
  (ho : ∀ b, H b = some (.own a) → H' b = some (.own a)) (ht : ∀ b xs, H b = some (.tup xs) → H' b = some (.tup xs)) : B4 P w H' h' a o := by
 induction o with
 | lst xs => obtain ⟨z, its, n, r, e⟩ := x; exact ⟨z, its, n, r, k _ _ (.inl rfl) e⟩
 | tup xs => obtain ⟨z, its, r, ob, e, c⟩ := x; exact ⟨z, its, r, ob, k _ _ (.inl rfl) e, c⟩
 | dK kvs => obtain ⟨z, y, vs, r, ob, es, ep, e, c⟩ := x; exact ⟨z, y, vs, r, ob, es, ep, k _ _ (.inl rfl) e, c⟩
 | dT kvs =>
  obtain ⟨z, y, xs, r, ob, es, ep, e, c⟩ := x
  exact ⟨z, y, xs, Paired.mapP r fun p q z => ⟨z.1, ht _ _ z.2.1, z.2.2⟩, ob, es, ep, k _ _ (.inl rfl) e, c⟩
 | set S n => obtain ⟨ob, es, ep, t, e, c⟩ := x; exact ⟨ob, es, ep, t, k _ _ (.inl rfl) e, c⟩
 | ins C dx fs =>
  obtain ⟨d, z, ne, e, mA, ⟨od, es, ep, e2, c⟩, r⟩ := x
  exact ⟨ho _ d, z, ne, k _ _ (.inl rfl) e, mA, ⟨od, es, ep, k _ _ (.inr d) e2, c⟩, r⟩
 | own y => obtain ⟨ob, e⟩ := x; exact ⟨ob, k _ _ (.inl rfl) e⟩
 | xd fs => obtain ⟨mA, ⟨od, es, ep, e, c⟩, r⟩ := x; exact ⟨mA, ⟨od, es, ep, k _ _ (.inl rfl) e, c⟩, r⟩
 | rng lo hi => obtain ⟨t, u, v, e⟩ := x; exact ⟨t, u, v, k _ _ (.inl rfl) e⟩
 | frz ob u ih => obtain ⟨e, q⟩ := x; exact ⟨k _ _ (.inl rfl) e, ih q⟩
 | tbl ps =>
  have e : h.get? a = some { cls := .none, data := .fields ps } := x
  show h'.get? a = some { cls := .none, data := .fields ps }
  exact k a _ (.inl rfl) e
 | met f y =>
  have e : h.get? a = some (W.methodObj (.ref f) (.ref y)) := x
  show h'.get? a = some (W.methodObj (.ref f) (.ref y))
  exact k a _ (.inl rfl) e
 | ext φ => obtain ⟨p, ⟨o, e⟩, st⟩ := x; exact ⟨st _ _ p fun o q => k _ _ (.inl rfl) q, ⟨o, k _ _ (.inl rfl) e⟩, st⟩
theorem HOk.lt (x : HOk P w H h) (e : H a = some o) : a < h.objs.size := (x a o e).lt
theorem HOk.fresh (x : HOk P w H h) (e : h.objs.size ≤ a) : H a = none := by
 cases q : H a with
 | none => rfl
 | some u => exact absurd (z9 (x.lt q) e) (zf _)
theorem HOk.kept (x : HOk P w H h) (k : ∀ b u, h.get? b = some u → h'.get? b = some u) : HOk P w H h' := fun a o e =>
 (x a o e).stay (fun b u _ q => k b u q) (fun _ q => q) fun _ _ q => q
theorem HOk.laid (x : HOk P w H h) (k : ∀ b u, h.get? b = some u → h'.get? b = some u) (hp : h.objs.size ≤ a) (new : B4 P w (upd H a o) h' a o) : HOk P w (upd H a o) h' := fun b u e => by
 have hn := x.fresh hp
 by_cases hb : b = a
 ·subst hb; rw [AQ] at e; cases e; exact new
 ·rw [AJ hb] at e
  exact (x b u e).stay (fun c v _ q => k c v q) (fun c q => by rw [AJ (Ak q hn)]; exact q) fun c xs q => by rw [AJ (Ak q hn)]; exact q
end
noncomputable def Rd (H : Hp) (a : Addr) (u : HO) : Prop := H a = some u ∨ ∃ o, H a = some (.frz o u)
theorem Rd.ok {P : Program} {w : World} {H : Hp} {h : Heap} {a : Addr} {u : HO} (r : Rd H a u) (x : HOk P w H h) : B4 P w H h a u := by
 rcases r with r | ⟨o, r⟩
 ·exact x a u r
 ·obtain ⟨_, q⟩ := x a _ r
  exact q
noncomputable def Mut : Option HO → Prop
 | some (.lst _) => True
 | some (.dK _) => True
 | some (.dT _) => True
 | some (.set _ _) => True
 | some (.ins _ _ _) => True
 | some (.ext _) => True
 | _ => False
section
variable {P : Program} {w : World} {H : Hp} {h h' : Heap} {x e : Addr} {o' : HO}
theorem HOk.write (ok : HOk P w H h) (mu : Mut (H x)) (he : e = x ∨ H e = some (.own x)) (k : ∀ b u, b ≠ e → h.get? b = some u → h'.get? b = some u) (heo : ∃ u, h'.get? e = some u)
  (new : B4 P w (upd H x o') h' x o') : HOk P w (upd H x o') h' := fun b u q => by
 have nown : ∀ c y, H c = some (.own y) → c ≠ x := fun c y r z => by subst z; rw [r] at mu; exact mu
 have ntup : ∀ c xs, H c = some (.tup xs) → c ≠ x := fun c xs r z => by subst z; rw [r] at mu; exact mu
 by_cases hb : b = x
 ·subst hb; rw [AQ] at q; cases q; exact new
 ·rw [AJ hb] at q
  by_cases hbe : b = e
  ·have q' : H b = some (.own x) := by
    rcases he with z | z
    ·exact absurd (hbe.trans z) hb
    ·rw [hbe]; exact z
   rw [q] at q'; cases q'
   obtain ⟨v, hv⟩ := heo
   exact ⟨v, by rw [hbe]; exact hv⟩
  ·refine (ok b u q).stay (fun c v hc r => k c v ?_ r) (fun c r => by rw [AJ (nown c b r)]; exact r) fun c xs r => by rw [AJ (ntup c xs r)]; exact r
   rcases hc with rfl | hc
   ·exact hbe
   ·rintro rfl
    rcases he with z | z
    ·exact nown c b hc z
    ·rw [hc] at z; cases z; exact hb rfl
end
structure Un (fs ex : List Addr) (H H' : Hp) (h h' : Heap) : Prop where
 keep : ∀ b o, h.get? b = some o → H b = none → b ∉ fs → b ∉ ex → h'.get? b = some o
 slot : ∀ b o, h.get? b = some o → H b = none → b ∈ fs → b ∉ ex → ∃ sl, h'.get? b = some { o with slots := sl }
 free : ∀ b o, h.get? b = some o → H b = none → b ∉ ex → H' b = none
 there : ∀ b o, h.get? b = some o → b ∉ ex → ∃ o', h'.get? b = some o'
 tups : ∀ b xs, H b = some (.tup xs) → H' b = some (.tup xs)
 frzs : ∀ b o u, H b = some (.frz o u) → H' b = some (.frz o u)
 tbls : ∀ b ps, H b = some (.tbl ps) → ∃ more, H' b = some (.tbl (ps ++ more))
section
variable {fs fs' ex ex' : List Addr} {H H1 H2 : Hp} {h h1 h2 h' : Heap} {a x e : Addr} {o : HO}
theorem Un.any (u : Un fs ex H H1 h h1) {b : Addr} {ob : Obj} (q : h.get? b = some ob) (n : H b = none) (hx : b ∉ ex) : ∃ sl, h1.get? b = some { ob with slots := sl } := by
 by_cases hb : b ∈ fs
 ·exact u.slot b ob q n hb hx
 ·exact ⟨ob.slots, u.keep b ob q n hb hx⟩
theorem Un.kept (k : ∀ b u, h.get? b = some u → h'.get? b = some u) : Un fs ex H H h h' :=
 ⟨fun b ob q _ _ _ => k b ob q, fun b ob q _ _ _ => ⟨ob.slots, k b ob q⟩, fun _ _ _ n _ => n, fun b ob q _ => ⟨ob, k b ob q⟩, fun _ _ q => q, fun _ _ _ q => q, fun _ ps q => ⟨#[], by rw [q]; simp⟩⟩
theorem Un.refl : Un fs ex H H h h := Un.kept fun _ _ q => q
theorem Un.laid (k : ∀ b u, h.get? b = some u → h'.get? b = some u) (hp : h.objs.size ≤ a) (hn : H a = none) : Un fs ex H (upd H a o) h h' where
 keep := fun b u q _ _ _ => k b u q
 slot := fun b u q _ _ _ => ⟨u.slots, k b u q⟩
 free := fun b u q n _ => by rw [AJ (zP (z9 (zA q) hp))]; exact n
 there := fun b u q _ => ⟨u, k b u q⟩
 tups := fun b xs q => by rw [AJ (Ak q hn)]; exact q
 frzs := fun b u xs q => by rw [AJ (Ak q hn)]; exact q
 tbls := fun b ps q => ⟨#[], by rw [AJ (Ak q hn), q]; simp⟩
theorem Un.write (mu : Mut (H x)) (he : e = x ∨ H e = some (.own x)) (k : ∀ b u, b ≠ e → h.get? b = some u → h'.get? b = some u) (heo : ∃ u, h'.get? e = some u) : Un fs ex H (upd H x o) h h' := by
 have hx : ∀ b, H b = none → b ≠ x := fun b n z => by subst z; rw [n] at mu; exact mu
 have hb : ∀ b, H b = none → b ≠ e := fun b n z => by
  subst z
  rcases he with r | r
  ·exact hx b n r
  ·rw [n] at r; cases r
 have hm : ∀ b u, H b = some u → ¬ Mut (some u) → b ≠ x := fun b u q nm z => by subst z; rw [q] at mu; exact nm mu
 refine ⟨fun b u q n _ _ => k b u (hb b n) q, fun b u q n _ _ => ⟨u.slots, k b u (hb b n) q⟩, fun b u q n _ => by rw [AJ (hx b n)]; exact n, fun b u q _ => ?_,
  fun b xs q => by rw [AJ (hm b _ q fun z => z)]; exact q, fun b u xs q => by rw [AJ (hm b _ q fun z => z)]; exact q, fun b ps q => ⟨#[], by rw [AJ (hm b _ q fun z => z), q]; simp⟩⟩
 by_cases hbe : b = e
 ·subst hbe; exact heo
 ·exact ⟨u, k b u hbe q⟩
end
noncomputable def trk (h : Heap) (H : Hp) : List Addr := (List.range h.objs.size).filter fun a => (H a).isSome
noncomputable def M8 (h : Heap) (H : Hp) : Heap := W.hideAll h (trk h H)
theorem Py (h : Heap) (H : Hp) : (M8 h H).objs.size = h.objs.size := W.hideAll_size _ _
theorem RI {h : Heap} {H : Hp} {b : Addr} {o : Obj} (e : h.get? b = some o) (n : H b = none) : (M8 h H).get? b = some o :=
 W.hideAll_get _ e fun hm => by
  have q : (H b).isSome = true := (zp.mp hm).2
  rw [n] at q; simp at q
theorem SC {h : Heap} {H : Hp} {b : Addr} {o : Obj} (e : (M8 h H).get? b = some o) : h.get? b = some o ∧ H b = none := by
 have e' : h.get? b = some o := W.of_hideAll (trk h H) e
 refine ⟨e', ?_⟩
 cases q : H b with
 | none => rfl
 | some x =>
  have hm : b ∈ trk h H := zp.mpr ⟨List.mem_range.mpr (zA e'), by simp [q]⟩
  have z : (M8 h H).get? b = none := W.hideAll_none (trk h H) hm
  rw [z] at e; cases e
structure Mod (K : W.Frag) (mg : Str → Option Value) (base : Heap) : Prop where
 kin : K.In base
 glob : base.Ns mainGlobals mg
 blt : ∃ mb, base.Ns builtinsNs mb ∧ ∀ x : Str, x ≠ "__name__" → mb x = bootBuiltins x
 nolimit : base.NoLimit
structure Cx where
 prog : Program
 w : World
 K : W.Frag
 mg : Str → Option Value
 base : Heap
 A : Around
 N : List Str
 s₀ : Shared
 H₀ : Hp
 env : Env
 outer : List Env
 stack : List Env
 ex : List Addr
 fn : Str → Bool
 calm : Bool
 pn : List (Addr × Obj)
 xe : Value → Shared → Prop
noncomputable def frs (l : List Env) : List Addr := l.filterMap (·.frame)
noncomputable abbrev Cx.fs (X : Cx) : List Addr := frs X.outer
noncomputable def Vis (sc : Scope) (x : Str) : Prop := sc.names.lookup x = some .local ∨ sc.names.lookup x = some .cell ∨ sc.names.lookup x = some .free
noncomputable def Loc (sc : Scope) (x : Str) : Prop := sc.names.lookup x = some .local ∨ sc.names.lookup x = some .cell
noncomputable def Look (env : Env) (h : Heap) (m : Str → Option Value) (x : Str) (u : Value) : Prop :=
 (env.kindOf x = some .local ∧ m x = some u) ∨ ((env.kindOf x = some .cell ∨ env.kindOf x = some .free) ∧ ∃ c, env.cells.lookup x = some c ∧ h.IsCell c (some u))
structure Cx.Ok (X : Cx) : Prop where
 mod : Mod X.K X.mg X.base
 kind : X.env.scope.kind = .function
 glob : X.env.globals = mainGlobals
 blt : X.env.builtins = builtinsNs
 above : X.s₀.heap.objs.size ≤ X.env.locals
 inj : ∀ x y c, X.env.cells.lookup x = some c → X.env.cells.lookup y = some c → x = y
 has : ∀ x, (X.env.kindOf x = some .cell ∨ X.env.kindOf x = some .free) → ∃ c, X.env.cells.lookup x = some c
 cab : ∀ x c, X.fn x = true → X.env.cells.lookup x = some c → X.s₀.heap.objs.size ≤ c
 hd : X.calm = true → X.A.handled = none
 frames : X.A.frames = some X.stack
 stk : X.stack = X.outer ∨ (X.stack = X.env :: X.outer ∧ X.env.frame = some X.env.locals)
 exf : ∀ b ∈ X.ex, b ≠ X.env.locals ∧ ∀ x c, X.env.cells.lookup x = some c → c ≠ b
 bs : ∀ b o, X.base.get? b = some o → X.s₀.heap.get? b = some o ∧ X.H₀ b = none
 bsz : X.base.objs.size ≤ X.s₀.heap.objs.size
 noex : ∀ b o, X.base.get? b = some o → b ∉ X.ex
 exfs : ∀ b ∈ X.ex, b ∉ X.fs
 funs : X.s₀.heap.FunFrames X.base X.outer
 frf : ∀ b ∈ X.fs, X.H₀ b = none
structure Inv (X : Cx) (pins : List (Addr × Obj)) (σ : List (Option V)) (H : Hp) (s : Shared) : Prop where
 ok : X.Ok
 os : s.os = X.s₀.os
 bare : AllBare s.gens
 base : Un X.fs X.ex X.H₀ H X.s₀.heap s.heap
 loc : ∃ m, s.heap.Ns X.env.locals m ∧ ∀ (i : Nat) (x : Str) (v : V), X.N[i]? = some x → σ[i]? = some (some v) → Vis X.env.scope x → ∃ u, RelV v u ∧ Look X.env s.heap m x u
 cell : ∀ x c, X.env.cells.lookup x = some c → ∃ v, s.heap.IsCell c v
 free : H X.env.locals = none
 freeC : ∀ x c, X.env.cells.lookup x = some c → H c = none
 pin : ∀ p ∈ X.pn ++ pins, s.heap.get? p.1 = some p.2 ∧ H p.1 = none ∧ p.1 ≠ X.env.locals ∧ p.1 ∉ X.fs ∧ ∀ v, p.2.data ≠ .cell v
 hok : HOk X.prog X.w H s.heap
 len : σ.length = X.N.length
section
variable {X : Cx} {pins : List (Addr × Obj)} {σ : List (Option V)} {H H' : Hp} {s : Shared} {h' : Heap}
theorem Cx.Ok.nofr (ok : X.Ok) {b : Addr} {o : Obj} (e : X.base.get? b = some o) : b ∉ X.fs := fun hb => by
 have := (ok.funs.mem hb).1
 rw [e] at this; cases this
theorem Inv.bs (I : Inv X pins σ H s) : ∀ b o, X.base.get? b = some o → s.heap.get? b = some o ∧ H b = none := fun b o e =>
 ⟨I.base.keep b o (I.ok.bs b o e).1 (I.ok.bs b o e).2 (I.ok.nofr e) (I.ok.noex b o e), I.base.free b o (I.ok.bs b o e).1 (I.ok.bs b o e).2 (I.ok.noex b o e)⟩
theorem Inv.bk (I : Inv X pins σ H s) : ∀ b o, X.base.get? b = some o → s.heap.get? b = some o := fun b o e => (I.bs b o e).1
theorem Inv.mod (I : Inv X pins σ H s) : Mod X.K X.mg X.base := I.ok.mod
theorem Inv.kIn (I : Inv X pins σ H s) : X.K.In s.heap := I.ok.mod.kin.keeps I.bk
theorem Inv.lt (I : Inv X pins σ H s) : X.env.locals < s.heap.objs.size := let ⟨_, hn, _⟩ := I.loc; hn.lt
theorem Inv.sz (I : Inv X pins σ H s) : X.s₀.heap.objs.size ≤ s.heap.objs.size := zL I.ok.above (Nat.le_of_lt I.lt)
theorem Inv.nofs (I : Inv X pins σ H s) {a : Addr} (h : s.heap.objs.size ≤ a) : a ∉ X.fs := fun hb => by
 obtain ⟨_, o, ho, _⟩ := I.ok.funs.mem hb
 exact absurd (z9 (zA ho) (zL I.sz h)) (zf _)
theorem Inv.cne (I : Inv X pins σ H s) : ∀ x c, X.env.cells.lookup x = some c → c ≠ X.env.locals := fun x c e z => by
 obtain ⟨v, o, ho, hd⟩ := I.cell x c e
 obtain ⟨m, ⟨o', es, ep, ho', hd', _⟩, _⟩ := I.loc
 rw [z, ho'] at ho; cases ho; rw [hd'] at hd; cases hd
theorem Inv.funs (I : Inv X pins σ H s) : s.heap.FunFrames X.base X.outer := by
 have all : ∀ (l : List Env), (∀ b ∈ frs l, b ∈ X.fs) → X.s₀.heap.FunFrames X.base l → s.heap.FunFrames X.base l := by
  intro l
  induction l with
  | nil => intro _ _; trivial
  | cons env r ih =>
   intro hs hl
   obtain ⟨hk, ⟨L, o, hf, hn, ho, hd⟩, hr⟩ := hl
   have hL : L ∈ X.fs := hs L (by unfold frs; rw [zo, hf]; exact zQ)
   obtain ⟨sl, e⟩ := I.base.slot L o ho (I.ok.frf L hL) hL fun z => I.ok.exfs L z hL
   exact ⟨hk, ⟨L, _, hf, hn, e, hd⟩, ih (fun b hb => hs b (by unfold frs; rw [zo, hf]; exact zC _ hb)) hr⟩
 exact all X.outer (fun _ hb => hb) I.ok.funs
theorem Inv.stack (I : Inv X pins σ H s) : s.heap.FunFrames X.base X.stack := by
 rcases I.ok.stk with e | ⟨e, hf⟩
 ·rw [e]; exact I.funs
 ·rw [e]
  obtain ⟨m, hn, _⟩ := I.loc
  refine .cons (by rw [I.ok.kind]; decide) hf hn ?_ I.funs
  exact Heap.get?_none_of_le (zL I.ok.bsz I.ok.above)
theorem Inv.stkSub (I : Inv X pins σ H s) : ∀ b ∈ frs X.stack, b ∈ X.env.locals :: X.fs := fun b hb => by
 rcases I.ok.stk with e | ⟨e, hf⟩
 ·rw [e] at hb; exact zC _ hb
 ·rw [e] at hb
  unfold frs at hb
  rw [zo, hf] at hb
  exact hb
theorem Inv.stkFree (I : Inv X pins σ H s) : ∀ b ∈ frs X.stack, H b = none := fun b hb => by
 rcases zH.mp (I.stkSub b hb) with e | hb
 ·rw [e]; exact I.free
 ·obtain ⟨_, o, ho, _⟩ := I.ok.funs.mem hb
  exact I.base.free b o ho (I.ok.frf b hb) fun z => I.ok.exfs b z hb
theorem Inv.step {g' : Array GenState} {t' : Nat} {d' : Drawn} {ch : List Addr} (I : Inv X pins σ H s)
  (hch : ∀ b ∈ ch, (b ∈ X.ex ∨ X.s₀.heap.objs.size ≤ b) ∧ b ≠ X.env.locals ∧ (∀ x c, X.env.cells.lookup x = some c → c ≠ b) ∧ ∀ p ∈ X.pn ++ pins, p.1 ≠ b)
  (keep : ∀ b o, b ≠ X.env.locals → b ∉ X.fs → b ∉ ch → s.heap.get? b = some o → H b = none → h'.get? b = some o)
  (slot : ∀ b o, b ≠ X.env.locals → b ∈ X.fs → b ∉ ch → s.heap.get? b = some o → H b = none → ∃ sl, h'.get? b = some { o with slots := sl }) (free : ∀ b o, b ∉ ch → s.heap.get? b = some o → H b = none → H' b = none)
  (there : ∀ b o, b ∉ ch → s.heap.get? b = some o → ∃ o', h'.get? b = some o')
  (tups : ∀ b xs, H b = some (.tup xs) → H' b = some (.tup xs)) (frzs : ∀ b o u, H b = some (.frz o u) → H' b = some (.frz o u)) (tbls : ∀ b ps, H b = some (.tbl ps) → ∃ more, H' b = some (.tbl (ps ++ more)))
  (ns : ∀ m, s.heap.Ns X.env.locals m → h'.Ns X.env.locals m) (hok : HOk X.prog X.w H' h') (hg : AllBare g') :
  Inv X pins σ H' { s with heap := h', gens := g', drawn := d', toks := t' } := by
 have neL : ∀ b o, X.s₀.heap.get? b = some o → b ≠ X.env.locals := fun b o e => zP (z9 (zA e) I.ok.above)
 have neC : ∀ b o, X.s₀.heap.get? b = some o → b ∉ X.ex → b ∉ ch := fun b o e hx hb => by
  rcases (hch b hb).1 with z | z
  ·exact hx z
  ·exact absurd (z9 (zA e) z) (zf _)
 have cellK : ∀ x c, X.env.cells.lookup x = some c → ∀ v, s.heap.IsCell c v → h'.IsCell c v := fun x c e v ⟨o, ho, hd⟩ => by
  have nch : c ∉ ch := fun z => (hch c z).2.2.1 x c e rfl
  by_cases hc : c ∈ X.fs
  ·obtain ⟨sl, q⟩ := slot c o (I.cne x c e) hc nch ho (I.freeC x c e)
   exact ⟨_, q, hd⟩
  ·exact ⟨o, keep c o (I.cne x c e) hc nch ho (I.freeC x c e), hd⟩
 refine ⟨I.ok, I.os, hg, ⟨fun b o e n hb hx => ?_, fun b o e n hb hx => ?_, fun b o e n hx => ?_, fun b o e hx => ?_, fun b xs e => tups b xs (I.base.tups b xs e), fun b o xs e => frzs b o xs (I.base.frzs b o xs e), fun b ps e => ?_⟩, ?_, fun x c e => ?_, ?_, fun x c e => ?_, fun p hp => ?_, hok, I.len⟩
 ·exact keep b o (neL b o e) hb (neC b o e hx) (I.base.keep b o e n hb hx) (I.base.free b o e n hx)
 ·obtain ⟨sl, e1⟩ := I.base.slot b o e n hb hx
  obtain ⟨sl', e2⟩ := slot b _ (neL b o e) hb (neC b o e hx) e1 (I.base.free b o e n hx)
  exact ⟨sl', e2⟩
 ·obtain ⟨o', e1⟩ := I.base.there b o e hx
  exact free b o' (neC b o e hx) e1 (I.base.free b o e n hx)
 ·obtain ⟨o', e1⟩ := I.base.there b o e hx
  exact there b o' (neC b o e hx) e1
 ·obtain ⟨m1, e1⟩ := I.base.tbls b ps e
  obtain ⟨m2, e2⟩ := tbls b _ e1
  exact ⟨m1 ++ m2, by rw [e2, Array.append_assoc]⟩
 ·obtain ⟨m, hn, hl⟩ := I.loc
  refine ⟨m, ns m hn, fun i x v e1 e2 e3 => ?_⟩
  obtain ⟨u, r, l⟩ := hl i x v e1 e2 e3
  refine ⟨u, r, ?_⟩
  rcases l with l | ⟨k, c, e, z⟩
  ·exact .inl l
  ·exact .inr ⟨k, c, e, cellK x c e _ z⟩
 ·obtain ⟨v, z⟩ := I.cell x c e
  exact ⟨v, cellK x c e v z⟩
 ·obtain ⟨m, ⟨o, _, _, ho, _⟩, _⟩ := I.loc
  exact free _ o (fun z => (hch _ z).2.1 rfl) ho I.free
 ·obtain ⟨v, o, ho, hd⟩ := I.cell x c e
  exact free c o (fun z => (hch c z).2.2.1 x c e rfl) ho (I.freeC x c e)
 ·obtain ⟨e, n, ne, nf, d⟩ := I.pin p hp
  have nch : p.1 ∉ ch := fun z => (hch p.1 z).2.2.2 p hp rfl
  exact ⟨keep p.1 p.2 ne nf nch e n, free p.1 p.2 nch e n, ne, nf, d⟩
theorem Inv.un {t' : Nat} (I : Inv X pins σ H s) (u : Un X.fs [] H H' s.heap h') (hok : HOk X.prog X.w H' h') : Inv X pins σ H' { s with heap := h', toks := t' } := by
 obtain ⟨m, ⟨o, es, ep, ho, r⟩, _⟩ := id I.loc
 obtain ⟨sl, hL⟩ := u.any ho I.free (by simp)
 exact I.step (g' := s.gens) (d' := s.drawn) (ch := []) (fun _ z => nomatch z) (fun b o _ hb _ e n => u.keep b o e n hb (by simp)) (fun b o _ hb _ e n => u.slot b o e n hb (by simp)) (fun b o _ e n => u.free b o e n (by simp)) (fun b o _ e => u.there b o e (by simp)) u.tups u.frzs u.tbls (fun m' hm => by
  obtain ⟨o', es', ep', ho', r'⟩ := hm
  rw [ho] at ho'; cases ho'
  exact ⟨_, es', ep', hL, r'⟩) hok I.bare
theorem Inv.call {g' : Array GenState} {t' : Nat} {d' : Drawn} {ch : List Addr} (I : Inv X pins σ H s) (u : Un (frs X.stack) ch H H' s.heap h') (hok : HOk X.prog X.w H' h') (hg : AllBare g')
  (hch : ∀ b ∈ ch, (b ∈ X.ex ∨ X.s₀.heap.objs.size ≤ b) ∧ b ≠ X.env.locals ∧ (∀ x c, X.env.cells.lookup x = some c → c ≠ b) ∧ ∀ p ∈ X.pn ++ pins, p.1 ≠ b) :
  Inv X pins σ H' { s with heap := h', gens := g', drawn := d', toks := t' } := by
 obtain ⟨m, ⟨o, es, ep, ho, r⟩, _⟩ := id I.loc
 obtain ⟨sl, hL⟩ := u.any ho I.free fun z => (hch _ z).2.1 rfl
 exact I.step (ch := ch) hch (fun b o hL hb hc e n => u.keep b o e n (fun z => (zH.mp (I.stkSub b z)).elim hL hb) hc) (fun b o _ _ hc e n => u.any e n hc) (fun b o hc e n => u.free b o e n hc) (fun b o hc e => u.there b o e hc) u.tups u.frzs u.tbls (fun m' hm => by
  obtain ⟨o', es', ep', ho', r'⟩ := hm
  rw [ho] at ho'; cases ho'
  exact ⟨_, es', ep', hL, r'⟩) hok hg
theorem Inv.turned {t' : Nat} {it : Addr} (I : Inv X pins σ H s) (k : ∀ b o, b ≠ it → s.heap.get? b = some o → h'.get? b = some o) (hn : H it = none) (hL : it ≠ X.env.locals)
  (h1 : it ∈ X.ex ∨ X.s₀.heap.objs.size ≤ it) (h2 : ∀ x c, X.env.cells.lookup x = some c → c ≠ it) (h3 : ∀ p ∈ X.pn ++ pins, p.1 ≠ it) : Inv X pins σ H { s with heap := h', toks := t' } := by
 have nit : ∀ b u, H b = some u → b ≠ it := fun b u e z => by rw [z, hn] at e; cases e
 refine I.step (g' := s.gens) (d' := s.drawn) (ch := [it]) (fun b hb => ?_) (fun b o _ _ hc e _ => k b o (fun z => hc (by simp [z])) e) (fun b o _ _ hc e _ => ⟨o.slots, k b o (fun z => hc (by simp [z])) e⟩) (fun _ _ _ _ n => n)
  (fun b o hc e => ⟨o, k b o (fun z => hc (by simp [z])) e⟩) (fun _ _ e => e) (fun _ _ _ e => e) (fun b ps e => ⟨#[], by rw [e]; simp⟩) (fun m hm => ?_) (fun b u e => ?_) I.bare
 ·have e : b = it := by simpa using hb
  subst e
  exact ⟨h1, hL, h2, h3⟩
 ·obtain ⟨o, es, ep, ho, r⟩ := hm
  exact ⟨o, es, ep, k _ o (Ne.symm hL) ho, r⟩
 ·refine (I.hok b u e).stay (fun c v hc q => k c v ?_ q) (fun _ q => q) fun _ _ q => q
  rcases hc with z | z
  ·rw [z]; exact nit b u e
  ·exact nit c _ z
theorem Inv.tok (I : Inv X pins σ H s) (t : Nat) : Inv X pins σ H { s with toks := t } := I.un (h' := s.heap) (t' := t) Un.refl I.hok
theorem Inv.kept {t' : Nat} (I : Inv X pins σ H s) (k : ∀ b u, s.heap.get? b = some u → h'.get? b = some u) : Inv X pins σ H { s with heap := h', toks := t' } := I.un (Un.kept k) (I.hok.kept k)
theorem Inv.laid {a : Addr} {o : HO} {t' : Nat} (I : Inv X pins σ H s) (k : ∀ b u, s.heap.get? b = some u → h'.get? b = some u) (hp : s.heap.objs.size ≤ a) (new : B4 X.prog X.w (upd H a o) h' a o) :
  Inv X pins σ (upd H a o) { s with heap := h', toks := t' } := I.un (Un.laid k hp (I.hok.fresh hp)) (I.hok.laid k hp new)
theorem Inv.write {x e : Addr} {o : HO} {t' : Nat} (I : Inv X pins σ H s) (mu : Mut (H x)) (he : e = x ∨ H e = some (.own x)) (k : ∀ b u, b ≠ e → s.heap.get? b = some u → h'.get? b = some u) (heo : ∃ u, h'.get? e = some u)
  (new : B4 X.prog X.w (upd H x o) h' x o) : Inv X pins σ (upd H x o) { s with heap := h', toks := t' } := I.un (Un.write mu he k heo) (I.hok.write mu he k heo new)
theorem Inv.pins_of {pins' : List (Addr × Obj)} (I : Inv X pins σ H s) (h : ∀ p ∈ pins', s.heap.get? p.1 = some p.2 ∧ H p.1 = none ∧ p.1 ≠ X.env.locals ∧ p.1 ∉ X.fs ∧ ∀ v, p.2.data ≠ .cell v) : Inv X pins' σ H s :=
 ⟨I.ok, I.os, I.bare, I.base, I.loc, I.cell, I.free, I.freeC, fun p hp => (zg.mp hp).elim (fun z => I.pin p (zy _ z)) (h p), I.hok, I.len⟩
theorem Ky {N : List Str} (hN : N.Nodup) {i j : Nat} {x : Str} (a : N[i]? = some x) (b : N[j]? = some x) : i = j := by
 obtain ⟨h1, e1⟩ := z8.mp a
 obtain ⟨h2, e2⟩ := z8.mp b
 exact (List.getElem_inj hN).mp (e1.trans e2.symm)
theorem MS {M : Model} {A : Around} {E : Value → Shared → Prop} {i : Nat} {x : Str} {v : V} {u : Value} {Q : Unit → Shared → Prop} (I : Inv X pins σ H s) (hN : X.N.Nodup) (hi : X.N[i]? = some x) (hx : Loc X.env.scope x) (r : RelV v u)
  (h : ∀ s', Inv X pins (σ.set i (some v)) H s' → (∃ a, Heap.SameBut a s.heap s'.heap ∧ (a = X.env.locals ∨ X.env.cells.lookup x = some a)) → Q () s') (hf : X.fn x = true ∨ X.env.scope.names.lookup x = some .local := by first | exact .inl rfl | exact .inr rfl | assumption) : wpAny M A (storeName X.env x u) Q E s := by
 obtain ⟨m, hn, hl⟩ := id I.loc
 have hcls : (X.env.scope.kind == .class || (X.env.scope.kind == .module && X.env.locals != X.env.globals)) = false := by rw [I.ok.kind]; rfl
 have hiσ : i < σ.length := by rw [I.len]; exact (z8.mp hi).1
 have cne := I.cne
 have tracked : ∀ {a : Addr} {h' : Heap}, (∃ o, s.heap.get? a = some o ∧ H a = none) → Heap.SameBut a s.heap h' → HOk X.prog X.w H h' := fun {a h'} ha hs b ob e => by
  obtain ⟨_, _, hfree⟩ := ha
  refine (I.hok b ob e).stay (fun c w' hc q => (hs.2 c ?_).trans q) (fun _ q => q) fun _ _ q => q
  rintro rfl
  rcases hc with rfl | hc
  ·rw [hfree] at e; cases e
  ·rw [hfree] at hc; cases hc
 rcases hx with hk | hk
 ·refine wpAny_storeName_local hk hn (fun h' hn' hs => ?_) hcls
  obtain ⟨oL, _, _, hoL, _⟩ := id hn
  refine h _ ⟨I.ok, I.os, I.bare, ⟨fun b o e n hb hx => ?_, fun b o e n hb hx => ?_, I.base.free, fun b o e hx => ?_, I.base.tups, I.base.frzs, I.base.tbls⟩, ⟨_, hn', fun j y v' e1 e2 e3 => ?_⟩, fun y c e => ?_, I.free, I.freeC, fun p hp => ?_, tracked ⟨oL, hoL, I.free⟩ hs, by simpa using I.len⟩ ⟨_, hs, .inl rfl⟩
  ·exact (hs.2 b (zP (z9 (zA e) I.ok.above))).trans (I.base.keep b o e n hb hx)
  ·obtain ⟨sl, e1⟩ := I.base.slot b o e n hb hx
   exact ⟨sl, (hs.2 b (zP (z9 (zA e) I.ok.above))).trans e1⟩
  ·obtain ⟨o', e1⟩ := I.base.there b o e hx
   exact ⟨o', (hs.2 b (zP (z9 (zA e) I.ok.above))).trans e1⟩
  ·by_cases hj : j = i
   ·subst hj
    rw [hi] at e1; cases e1
    rw [List.getElem?_set_self hiσ] at e2
    cases e2
    exact ⟨u, r, .inl ⟨hk, by simp⟩⟩
   ·rw [List.getElem?_set_ne (Ne.symm hj)] at e2
    obtain ⟨u', r', q⟩ := hl j y v' e1 e2 e3
    refine ⟨u', r', ?_⟩
    rcases q with ⟨k, e⟩ | ⟨k, c, e, z⟩
    ·refine .inl ⟨k, ?_⟩
     have : y ≠ x := fun e => hj (Ky hN e1 (e ▸ hi))
     simp [this, e]
    ·exact .inr ⟨k, c, e, z.sameBut hs (cne y c e)⟩
  ·obtain ⟨w', z⟩ := I.cell y c e
   exact ⟨w', z.sameBut hs (cne y c e)⟩
  ·obtain ⟨e, n, ne, nf, d⟩ := I.pin p hp
   exact ⟨(hs.2 p.1 ne).trans e, n, ne, nf, d⟩
 ·have hfn : X.fn x = true := by
   rcases hf with z | z
   ·exact z
   ·rw [z] at hk; cases hk
  obtain ⟨c, hc⟩ := I.ok.has x (.inl hk)
  obtain ⟨w', z⟩ := I.cell x c hc
  refine wpAny_storeName_cell I.ok.kind hk hc z (fun h' hc' hs => ?_)
  obtain ⟨oc, hoc, hocd⟩ := id z
  refine h { s with heap := h' } ⟨I.ok, I.os, I.bare, ⟨fun b o e n hb hx => ?_, fun b o e n hb hx => ?_, I.base.free, fun b o e hx => ?_, I.base.tups, I.base.frzs, I.base.tbls⟩, ⟨m, hn.sameBut hs (Ne.symm (cne x c hc)), fun j y v' e1 e2 e3 => ?_⟩, fun y c' e => ?_, I.free, I.freeC, fun p hp => ?_, tracked ⟨oc, hoc, I.freeC x c hc⟩ hs, by simpa using I.len⟩ ⟨c, hs, .inr hc⟩
  ·exact (hs.2 b (zP (z9 (zA e) (I.ok.cab x c hfn hc)))).trans (I.base.keep b o e n hb hx)
  ·obtain ⟨sl, e1⟩ := I.base.slot b o e n hb hx
   exact ⟨sl, (hs.2 b (zP (z9 (zA e) (I.ok.cab x c hfn hc)))).trans e1⟩
  ·obtain ⟨o', e1⟩ := I.base.there b o e hx
   exact ⟨o', (hs.2 b (zP (z9 (zA e) (I.ok.cab x c hfn hc)))).trans e1⟩
  ·by_cases hj : j = i
   ·subst hj
    rw [hi] at e1; cases e1
    rw [List.getElem?_set_self hiσ] at e2
    cases e2
    exact ⟨u, r, .inr ⟨.inl hk, c, hc, hc'⟩⟩
   ·rw [List.getElem?_set_ne (Ne.symm hj)] at e2
    obtain ⟨u', r', q⟩ := hl j y v' e1 e2 e3
    refine ⟨u', r', ?_⟩
    rcases q with q | ⟨k, c', e, z'⟩
    ·exact .inl q
    ·refine .inr ⟨k, c', e, z'.sameBut hs ?_⟩
     rintro rfl
     exact hj (Ky hN e1 (I.ok.inj _ _ _ e hc ▸ hi))
  ·by_cases hcc : c' = c
   ·subst hcc; exact ⟨_, hc'⟩
   ·obtain ⟨w2, z2⟩ := I.cell y c' e
    exact ⟨w2, z2.sameBut hs hcc⟩
  ·obtain ⟨e, n, ne, nf, d⟩ := I.pin p hp
   refine ⟨(hs.2 p.1 ?_).trans e, n, ne, nf, d⟩
   intro q
   rw [q, hoc] at e
   have q' : oc = p.2 := zI e
   exact d w' (by rw [← q']; exact hocd)
theorem Kd {M : Model} {A : Around} {E : Value → Shared → Prop} {i : Nat} {x : Str} {v : V} {u : Value} {Q : Unit → Shared → Prop} (I : Inv X pins σ H s) (hN : X.N.Nodup) (hi : X.N[i]? = some x) (hx : Loc X.env.scope x) (r : RelV v u)
  (h : ∀ s', Inv X pins (σ.set i (some v)) H s' → Q () s') (hf : X.fn x = true ∨ X.env.scope.names.lookup x = some .local := by first | exact .inl rfl | exact .inr rfl | assumption) : wpAny M A (storeName X.env x u) Q E s :=
 MS I hN hi hx r (fun s' I' _ => h s' I') hf
theorem Inv.call' {s' : Shared} {ch : List Addr} (I : Inv X pins σ H s) (ho : s'.os = s.os) (u : Un (frs X.stack) ch H H' s.heap s'.heap) (hok : HOk X.prog X.w H' s'.heap) (hg : AllBare s'.gens)
  (hch : ∀ b ∈ ch, (b ∈ X.ex ∨ X.s₀.heap.objs.size ≤ b) ∧ b ≠ X.env.locals ∧ (∀ x c, X.env.cells.lookup x = some c → c ≠ b) ∧ ∀ p ∈ X.pn ++ pins, p.1 ≠ b) : Inv X pins σ H' s' := by
 obtain ⟨h', g', d', t', o'⟩ := s'
 have e : o' = s.os := ho
 subst e
 exact I.call (g' := g') (t' := t') (d' := d') u hok hg hch
end
noncomputable abbrev XK := Value → Option Addr → Hp → Prop
noncomputable abbrev St := List (Option V)
noncomputable abbrev VK := V → Hp → Prop
noncomputable abbrev TE := St → Hp → VK → Prop
noncomputable abbrev TT := St → Hp → (Bool → Hp → Prop) → Prop
noncomputable abbrev TA := St → Hp → (List V → Hp → Prop) → Prop
structure Hr where
 nx : St → Hp → Prop
 rt : VK
 bk : St → Hp → Prop := fun _ _ => False
 ct : St → Hp → Prop := fun _ _ => False
noncomputable abbrev TS := Hr → St → Hp → Prop
noncomputable def EP (X : Cx) (pins : List (Addr × Obj)) (σ : St) (Q : VK) (u : Value) (s' : Shared) : Prop := ∃ v H', Inv X pins σ H' s' ∧ RelV v u ∧ Q v H'
noncomputable def TP (X : Cx) (pins : List (Addr × Obj)) (σ : St) (Q : Bool → Hp → Prop) (b : Bool) (s' : Shared) : Prop := ∃ H', Inv X pins σ H' s' ∧ Q b H'
noncomputable def AP (X : Cx) (pins : List (Addr × Obj)) (σ : St) (Q : List V → Hp → Prop) (us : List Value) (s' : Shared) : Prop := ∃ vs H', Inv X pins σ H' s' ∧ Ae vs us ∧ Q vs H'
noncomputable def SP (X : Cx) (pins : List (Addr × Obj)) (D : Hr) (f : Flow) (s' : Shared) : Prop :=
 match f with
 | .next => ∃ σ' H', Inv X pins σ' H' s' ∧ D.nx σ' H'
 | .brk => ∃ σ' H', Inv X pins σ' H' s' ∧ D.bk σ' H'
 | .cont => ∃ σ' H', Inv X pins σ' H' s' ∧ D.ct σ' H'
 | .ret u => ∃ v σ' H', Inv X pins σ' H' s' ∧ RelV v u ∧ D.rt v H'
noncomputable def PE (X : Cx) (e : Expr) (t : TE) : Prop :=
 ∀ (pins : List (Addr × Obj)) (s : Shared) (σ : St) (H : Hp) (Q : VK), Inv X pins σ H s → t σ H Q → wpAny (model X.prog X.w) X.A (eval e X.env) (EP X pins σ Q) X.xe s
noncomputable def PT (X : Cx) (e : Expr) (t : TT) : Prop :=
 ∀ (pins : List (Addr × Obj)) (s : Shared) (σ : St) (H : Hp) (Q : Bool → Hp → Prop), Inv X pins σ H s → t σ H Q → wpAny (model X.prog X.w) X.A (isTrue e X.env (eval e X.env)) (TP X pins σ Q) X.xe s
noncomputable def PW (X : Cx) (e : Expr) (t : TT) : Prop :=
 ∀ (whole : Sem Value) (pins : List (Addr × Obj)) (s : Shared) (σ : St) (H : Hp) (Q : Bool → Hp → Prop), Inv X pins σ H s → t σ H Q → wpAny (model X.prog X.w) X.A (isTrue e X.env whole) (TP X pins σ Q) X.xe s
theorem PW.pt {X : Cx} {e : Expr} {t : TT} (h : PW X e t) : PT X e t := h _
noncomputable def PA (X : Cx) (es : List Expr) (t : TA) : Prop :=
 ∀ (pos : Pos) (pins : List (Addr × Obj)) (s : Shared) (σ : St) (H : Hp) (Q : List V → Hp → Prop), Inv X pins σ H s → t σ H Q → wpAny (model X.prog X.w) X.A (spliced (backTo pos (starEach es X.env))) (AP X pins σ Q) X.xe s
noncomputable def PS (X : Cx) (st : Stmt) (t : TS) : Prop :=
 ∀ (pins : List (Addr × Obj)) (s : Shared) (σ : St) (H : Hp) (D : Hr), Inv X pins σ H s → t D σ H → wpAny (model X.prog X.w) X.A (exec st X.env) (SP X pins D) X.xe s
noncomputable def PSs (X : Cx) (st : List Stmt) (t : TS) : Prop :=
 ∀ (pins : List (Addr × Obj)) (s : Shared) (σ : St) (H : Hp) (D : Hr), Inv X pins σ H s → t D σ H → wpAny (model X.prog X.w) X.A (execs st X.env) (SP X pins D) X.xe s
theorem thn {α : Type} {t : Sem α} {Q Q' : α → Shared → Prop} {M : Model} {A : Around} {E : Value → Shared → Prop} {s : Shared} (h : wpAny M A t Q E s) (hQ : ∀ a s, Q a s → Q' a s) : wpAny M A t Q' E s := wpAny_mono h hQ fun _ _ x => x
section
variable {X : Cx}
noncomputable def Gj (i : Nat) : TE := fun σ H Q => ∃ v, σ[i]? = some (some v) ∧ Q v H
noncomputable def tC (v : V) : TE := fun _ H Q => Q v H
theorem TH {i : Nat} {x : Str} {pos : Pos} (hN : X.N[i]? = some x) (hv : Vis X.env.scope x) (hd : (x == ("__debug__" : Str)) = false := by decide) (hcd : (x == ("__classdict__" : Str)) = false := by decide) : PE X (.Name x pos) (Gj i) := by
 intro pins s σ H Q I h
 obtain ⟨v, e, h⟩ := h
 obtain ⟨m, hn, hl⟩ := I.loc
 obtain ⟨u, r, l⟩ := hl i x v hN e hv
 have fin : EP X pins σ Q u s := ⟨v, H, I, r, h⟩
 rcases l with ⟨hk, hm⟩ | ⟨hk, c, hc, hcell⟩
 ·exact wpAny_Name (wpAny_loadName_local I.ok.kind hk hn hm fin) hd
 ·rcases hk with hk | hk
  ·exact wpAny_Name (wpAny_loadName_cell I.ok.kind hk hc hcell fin) hd
  ·exact wpAny_Name (wpAny_loadName_free I.ok.kind hk hc hcell fin hcd) hd
theorem AC {i j pos} : PE X (.Constant (.int i) j pos) (tC (.int i)) := fun _ _ _ H _ I h => wpAny_Constant_int ⟨.int i, H, I.tok _, ⟨_, rfl⟩, h⟩
theorem S6 {b j pos} : PE X (.Constant (.bool b) j pos) (tC (.bl b)) := fun _ _ _ H _ I h => Constant_bool ⟨.bl b, H, I, rfl, h⟩
theorem Hd {j pos} : PE X (.Constant .none j pos) (tC .non) := fun _ _ _ H _ I h => Constant_none ⟨.non, H, I, rfl, h⟩
theorem Ar {x j pos} : PE X (.Constant (.str x) j pos) (tC (.str x)) := fun _ _ _ H _ I h => Calls.Constant_str ⟨.str x, H, I.tok _, ⟨_, rfl⟩, h⟩
noncomputable def Gl (X : Cx) (x : Str) : Prop := X.env.kindOf x = some .globalImplicit
theorem E2 {E : Value → Shared → Prop} {pins : List (Addr × Obj)} {s : Shared} {σ : St} {H : Hp} {x : Str} {u : Value} {pos : Pos} {Q : Value → Shared → Prop} (I : Inv X pins σ H s) (hg : Gl X x) (hm : X.mg x = some u) (h : Q u s)
  (hd : (x == ("__debug__" : Str)) = false := by decide) : wpAny (model X.prog X.w) X.A (eval (.Name x pos) X.env) Q E s :=
 Calls.Name_function_global I.ok.kind hg (Calls.loadGlobal_global (by rw [I.ok.glob]; exact I.mod.glob.keeps I.bk) hm h) hd
theorem Hk {E : Value → Shared → Prop} {pins : List (Addr × Obj)} {s : Shared} {σ : St} {H : Hp} {x : Str} {u : Value} {pos : Pos} {Q : Value → Shared → Prop} (I : Inv X pins σ H s) (hg : Gl X x) (hm : X.mg x = none) (hv : bootBuiltins x = some u) (h : Q u s)
  (hn : x ≠ "__name__" := by decide) (hd : (x == ("__debug__" : Str)) = false := by decide) : wpAny (model X.prog X.w) X.A (eval (.Name x pos) X.env) Q E s := by
 obtain ⟨mb, h1, h2⟩ := I.mod.blt
 exact Calls.Name_function_global I.ok.kind hg (Calls.loadGlobal_builtin (by rw [I.ok.glob]; exact I.mod.glob.keeps I.bk) hm (by rw [I.ok.blt]; exact h1.keeps I.bk) ((h2 x hn).trans hv) h) hd
theorem Aa {x : Str} {v : V} {u : Value} {pos : Pos} (hg : Gl X x) (hm : X.mg x = some u) (r : RelV v u) (hd : (x == ("__debug__" : Str)) = false := by decide) : PE X (.Name x pos) (tC v) :=
 fun _ _ _ H _ I h => E2 I hg hm ⟨v, H, I, r, h⟩ hd
theorem SQ {x : Str} {v : V} {u : Value} {pos : Pos} (hg : Gl X x) (hm : X.mg x = none) (hv : bootBuiltins x = some u) (r : RelV v u) (hn : x ≠ "__name__" := by decide) (hd : (x == ("__debug__" : Str)) = false := by decide) : PE X (.Name x pos) (tC v) :=
 fun _ _ _ H _ I h => Hk I hg hm hv ⟨v, H, I, r, h⟩ hn hd
variable {a b : Expr} {ta tb : TE} {pos : Pos}
noncomputable def tB (t : TE) : TT := fun σ H Q => t σ H fun x H1 => ∃ c, x = .bl c ∧ Q c H1
theorem Ju {e : Expr} {t : TE} (h : PE X e t) (he : ∀ whole, isTrue e X.env whole = (do let v ← whole; standAt e.pos; holding [v] (truthy v)) := by intro _; rfl) : PT X e (tB t) := by
 intro pins s σ H Q I hw
 refine isTrue_plain (thn (h pins s σ H _ I hw) fun v s1 ⟨x, H1, I1, r1, q1⟩ => ?_) (he _)
 obtain ⟨d, rfl, q⟩ := q1
 cases r1
 exact wpAny_truthy_bool ⟨H1, I1, q⟩
variable {tA tB' : TT} {rest : List Expr}
noncomputable def MI (t u : TT) : TT := fun σ H Q => t σ H fun c H1 => if c = true then u σ H1 Q else Q false H1
noncomputable def tOr (t u : TT) : TT := fun σ H Q => t σ H fun c H1 => if c = true then Q true H1 else u σ H1 Q
noncomputable def Lk (t : TT) : TT := fun σ H Q => t σ H fun c H1 => Q (!c) H1
theorem SJ (ha : PT X a tA) : PW X (.BoolOp .And [a] pos) tA := by
 intro wh pins s σ H Q I h
 refine isTrue_and (thn (ha pins s σ H Q I h) fun c s1 e => ?_)
 cases c with
 | true => exact isTrue_and_nil e
 | false => exact e
theorem Hu (ha : PT X a tA) : PW X (.BoolOp .Or [a] pos) tA := by
 intro wh pins s σ H Q I h
 refine isTrue_or (thn (ha pins s σ H Q I h) fun c s1 e => ?_)
 cases c with
 | false => exact isTrue_or_nil e
 | true => exact e
theorem Ts (ha : PT X a tA) (hb : PW X (.BoolOp .And (b :: rest) pos) tB') : PW X (.BoolOp .And (a :: b :: rest) pos) (MI tA tB') := by
 intro wh pins s σ H Q I h
 refine isTrue_and (thn (ha pins s σ H _ I h) fun c s1 zq => ?_)
 obtain ⟨H1, I1, q1⟩ := zq
 cases c with
 | true => exact hb wh pins s1 σ H1 Q I1 q1
 | false => exact ⟨H1, I1, q1⟩
theorem Ki (ha : PT X a tA) (hb : PW X (.BoolOp .Or (b :: rest) pos) tB') : PW X (.BoolOp .Or (a :: b :: rest) pos) (tOr tA tB') := by
 intro wh pins s σ H Q I h
 refine isTrue_or (thn (ha pins s σ H _ I h) fun c s1 zq => ?_)
 obtain ⟨H1, I1, q1⟩ := zq
 cases c with
 | true => exact ⟨H1, I1, q1⟩
 | false => exact hb wh pins s1 σ H1 Q I1 q1
theorem Q3 (ha : PT X a tA) : PT X (.UnaryOp .Not a pos) (Lk tA) := by
 intro pins s σ H Q I h
 exact isTrue_not (ha pins s σ H (fun c H1 => Q (!c) H1) I h)
noncomputable def FX (ta tb : TE) : TE := fun σ H Q => ta σ H fun x H1 => ∃ c, x = .bl c ∧ if c = true then tb σ H1 Q else Q (.bl false) H1
noncomputable def MC (ta tb : TE) : TE := fun σ H Q => ta σ H fun x H1 => ∃ c, x = .bl c ∧ if c = true then Q (.bl true) H1 else tb σ H1 Q
noncomputable def Ij (ta : TE) : TE := fun σ H Q => ta σ H fun x H1 => ∃ c, x = .bl c ∧ Q (.bl (!c)) H1
theorem Bh {op} {t : TE} (h : PE X a t) : PE X (.BoolOp op [a] pos) t := fun pins s σ H Q I hw => BoolOp_one (h pins s σ H Q I hw)
theorem CG (ha : PE X a ta) (hb : PE X (.BoolOp .And (b :: rest) pos) tb) : PE X (.BoolOp .And (a :: b :: rest) pos) (FX ta tb) := by
 intro pins s σ H Q I h
 refine BoolOp_and (thn (ha pins s σ H _ I h) fun v s1 zq => ?_)
 obtain ⟨x, H1, I1, r1, q1⟩ := zq
 obtain ⟨c, rfl, q1⟩ := q1
 cases r1
 refine wpAny_truthy_bool ?_
 cases c with
 | true => exact hb pins s1 σ H1 Q I1 q1
 | false => exact ⟨.bl false, H1, I1, rfl, q1⟩
theorem OD (ha : PE X a ta) (hb : PE X (.BoolOp .Or (b :: rest) pos) tb) : PE X (.BoolOp .Or (a :: b :: rest) pos) (MC ta tb) := by
 intro pins s σ H Q I h
 refine BoolOp_or (thn (ha pins s σ H _ I h) fun v s1 zq => ?_)
 obtain ⟨x, H1, I1, r1, q1⟩ := zq
 obtain ⟨c, rfl, q1⟩ := q1
 cases r1
 refine wpAny_truthy_bool ?_
 cases c with
 | false => exact hb pins s1 σ H1 Q I1 q1
 | true => exact ⟨.bl true, H1, I1, rfl, q1⟩
noncomputable def tIf (t : TT) (ta tb : TE) : TE := fun σ H Q => t σ H fun c H1 => if c = true then ta σ H1 Q else tb σ H1 Q
end
noncomputable def SqL (K : W.Frag) (H : Hp) (a : Addr) (xs : List V) : Prop :=
 Rd H a (.lst xs) ∨
  ∃ (o : Obj) (its : Array Value) (n : Nat), K.lookup a = some o ∧ o.cls = .type "list" ∧ o.dict = none ∧ o.data = .seq its n ∧ its.size ≤ sizeLine ∧ Ae xs its.toList
noncomputable def SqT (K : W.Frag) (H : Hp) (a : Addr) (xs : List V) : Prop :=
 Rd H a (.tup xs) ∨
  ∃ (o : Obj) (its : Array Value) (n : Nat), K.lookup a = some o ∧ o.cls = .type "tuple" ∧ o.data = .seq its n ∧ its.size ≤ sizeLine ∧ Ae xs its.toList
noncomputable def absV : Value → Option V
 | .none => some .non
 | .bool b => some (.bl b)
 | .int i _ => some (.int i)
 | .str x _ => some (.str x)
 | .bytes b _ => some (.byt b)
 | .float b _ => some (.flt b)
 | .ref a => some (.ref a)
 | .type n => some (.ty n)
 | _ => none
theorem RelV.abs {x : V} {u : Value} (r : RelV x u) : absV u = some x := by
 cases x with
 | non => cases r; rfl
 | bl _ => cases r; rfl
 | int _ => obtain ⟨t, rfl⟩ := r; rfl
 | str _ => obtain ⟨t, rfl⟩ := r; rfl
 | byt _ => obtain ⟨t, rfl⟩ := r; rfl
 | flt _ => obtain ⟨t, rfl⟩ := r; rfl
 | ref _ => cases r; rfl
 | ty _ => cases r; rfl
theorem RelV.inj {x y : V} {u : Value} (r : RelV x u) (q : RelV y u) : x = y := zI (r.abs.symm.trans q.abs)
theorem Ae.inj : ∀ {xs ys : List V} {us : List Value}, Ae xs us → Ae ys us → xs = ys
 | _, _, _, .nil, .nil => rfl
 | _, _, _, .cons r t, .cons r' t' => by rw [r.inj r', Ae.inj t t']
section
variable {X : Cx} {pins : List (Addr × Obj)} {σ : St} {H : Hp} {s : Shared} {a : Addr} {xs ys : List V}
theorem SqL.of {K : W.Frag} (h : H a = some (.lst xs)) : SqL K H a xs := .inl (.inl h)
theorem SqT.of {K : W.Frag} (h : H a = some (.tup xs)) : SqT K H a xs := .inl (.inl h)
theorem Inv.list (I : Inv X pins σ H s) (h : SqL X.K H a xs) : ∃ its : List Value, Ae xs its ∧ PlainL s.heap a its.toArray ∧ xs.length ≤ sizeLine := by
 rcases h with h | ⟨o, its, n, hk, hc, hd, hs, hz, r⟩
 ·obtain ⟨z, its, n, r, e⟩ := h.ok I.hok
  exact ⟨its, r, ⟨_, n, e, rfl, rfl, rfl⟩, z⟩
 ·refine ⟨its.toList, r, ⟨o, n, I.kIn a o hk, hc, hd, by simpa using hs⟩, ?_⟩
  have e := r.length
  simp only [Array.length_toList] at e
  lia
theorem Inv.tuple (I : Inv X pins σ H s) (h : SqT X.K H a xs) : ∃ its : List Value, Ae xs its ∧ IsTup s.heap a its.toArray ∧ xs.length ≤ sizeLine := by
 rcases h with h | ⟨o, its, n, hk, hc, hs, hz, r⟩
 ·obtain ⟨z, its, r, p⟩ := h.ok I.hok
  exact ⟨its, r, p, z⟩
 ·refine ⟨its.toList, r, ⟨o, I.kIn a o hk, hc, n, by simpa using hs⟩, ?_⟩
  have e := r.length
  simp only [Array.length_toList] at e
  lia
theorem Inv.list_inj (I : Inv X pins σ H s) (h : SqL X.K H a xs) (h' : SqL X.K H a ys) : xs = ys := by
 obtain ⟨its, r, ⟨o, n, e, _, _, d⟩, _⟩ := I.list h
 obtain ⟨its', r', ⟨o', n', e', _, _, d'⟩, _⟩ := I.list h'
 rw [e] at e'; cases e'
 rw [d] at d'
 injection d' with d1 _
 have : its = its' := by simpa using congrArg Array.toList d1
 subst this
 exact r.inj r'
theorem Inv.tuple_inj (I : Inv X pins σ H s) (h : SqT X.K H a xs) (h' : SqT X.K H a ys) : xs = ys := by
 obtain ⟨its, r, ⟨o, e, _, n, d⟩, _⟩ := I.tuple h
 obtain ⟨its', r', ⟨o', e', _, n', d'⟩, _⟩ := I.tuple h'
 rw [e] at e'; cases e'
 rw [d] at d'
 injection d' with d1 _
 have : its = its' := by simpa using congrArg Array.toList d1
 subst this
 exact r.inj r'
end
noncomputable abbrev Cx.wish (X : Cx) (E : Value → Shared → Prop) : Cx := { X with xe := E }
noncomputable abbrev Cx.nox (X : Cx) : Cx := X.wish fun _ _ => False
theorem Cx.Ok.wish {X : Cx} (ok : X.Ok) (E : Value → Shared → Prop) : (X.wish E).Ok :=
 ⟨ok.mod, ok.kind, ok.glob, ok.blt, ok.above, ok.inj, ok.has, ok.cab, ok.hd, ok.frames, ok.stk, ok.exf, ok.bs, ok.bsz, ok.noex, ok.exfs, ok.funs, ok.frf⟩
theorem Cx.Ok.unwish {X : Cx} {E : Value → Shared → Prop} (ok : (X.wish E).Ok) : X.Ok :=
 ⟨ok.mod, ok.kind, ok.glob, ok.blt, ok.above, ok.inj, ok.has, ok.cab, ok.hd, ok.frames, ok.stk, ok.exf, ok.bs, ok.bsz, ok.noex, ok.exfs, ok.funs, ok.frf⟩
section
variable {X : Cx} {pins : List (Addr × Obj)} {σ : St} {H : Hp} {s : Shared} {E : Value → Shared → Prop}
theorem Inv.wish (I : Inv X pins σ H s) (E : Value → Shared → Prop) : Inv (X.wish E) pins σ H s := ⟨I.ok.wish E, I.os, I.bare, I.base, I.loc, I.cell, I.free, I.freeC, I.pin, I.hok, I.len⟩
theorem Inv.unwish (I : Inv (X.wish E) pins σ H s) : Inv X pins σ H s := ⟨I.ok.unwish, I.os, I.bare, I.base, I.loc, I.cell, I.free, I.freeC, I.pin, I.hok, I.len⟩
theorem SP.unwish {D : Hr} {f : Flow} {s' : Shared} (h : SP (X.wish E) pins D f s') : SP X pins D f s' := by
 cases f with
 | next => obtain ⟨σ', H', I, q⟩ := h; exact ⟨σ', H', I.unwish, q⟩
 | brk => obtain ⟨σ', H', I, q⟩ := h; exact ⟨σ', H', I.unwish, q⟩
 | cont => obtain ⟨σ', H', I, q⟩ := h; exact ⟨σ', H', I.unwish, q⟩
 | ret u => obtain ⟨v, σ', H', I, r, q⟩ := h; exact ⟨v, σ', H', I.unwish, r, q⟩
theorem PSs.nox {st : List Stmt} {t : TS} (h : PSs X.nox st t) : PSs X st t := fun pins s σ H D I hw =>
 wpAny_mono (h pins s σ H D (I.wish _) hw) (fun _ _ q => q.unwish) fun _ _ z => False.elim z
end
section
variable {X : Cx} {st : Stmt} {rest : List Stmt} {t u : TS} {e : Expr} {te : TE} {pos : Pos}
noncomputable def Lf : TS := fun D σ H => D.nx σ H
noncomputable def OH (t u : TS) : TS := fun D σ H => t { D with nx := u D } σ H
theorem AM : PSs X [] Lf := fun _ _ σ H _ I h => wpAny_execs_nil ⟨σ, H, I, h⟩
theorem AD (h1 : PS X st t) (h2 : PSs X rest u) : PSs X (st :: rest) (OH t u) := by
 intro pins s σ H D I h
 refine wpAny_execs_cons (thn (h1 pins s σ H { D with nx := u D } I h) fun f s1 q => ?_)
 cases f with
 | next =>
  obtain ⟨σ', H', I', q⟩ := q
  exact h2 pins s1 σ' H' D I' q
 | ret v => exact q
 | brk => exact q
 | cont => exact q
theorem AE (h1 : PS X st t) : PSs X [st] t := by
 intro pins s σ H D I h
 refine wpAny_execs_cons (thn (h1 pins s σ H D I h) fun f s1 q => ?_)
 cases f with
 | next => exact wpAny_execs_nil q
 | ret v => exact q
 | brk => exact q
 | cont => exact q
noncomputable def Jn : TS := fun D σ H => D.bk σ H
noncomputable def Mg : TS := fun D σ H => D.ct σ H
theorem Inv.quiet {pins : List (Addr × Obj)} {σ : St} {H : Hp} {s : Shared} (I : Inv X pins σ H s) : interactive X.env = false := by simp [interactive, I.ok.kind]
noncomputable def K3 (te : TE) : TS := fun D σ H => te σ H fun _ H1 => D.nx σ H1
theorem BK (he : PE X e te) (hs : swapsWith e none pos.line X.env = pure false := by rfl) : PS X (.Expr e pos) (K3 te) := by
 intro pins s σ H D I h
 exact wpAny_Expr_any (thn (he pins s σ H _ I h) fun v s1 ⟨x, H1, I1, r1, q1⟩ => ⟨σ, H1, I1, q1⟩) I.quiet hs
noncomputable def On (te : TE) : TS := fun D σ H => te σ H D.rt
theorem AG (he : PE X e te) : PS X (.Return (some e) pos) (On te) := by
 intro pins s σ H D I h
 exact wpAny_Return_some (thn (he pins s σ H _ I h) fun v s1 ⟨x, H1, I1, r1, q1⟩ => ⟨x, σ, H1, I1, r1, q1⟩)
noncomputable def Mc : TS := fun D _ H => D.rt .non H
noncomputable def OR (c : TT) (t u : TS) : TS := fun D σ H => c σ H fun b H1 => if b = true then t D σ H1 else u D σ H1
theorem AT {c : Expr} {a b : List Stmt} {tc : TT} (hc : PT X c tc) (ha : PSs X a t) (hb : PSs X b u) : PS X (.If c a b pos) (OR tc t u) := by
 intro pins s σ H D I h
 refine wpAny_If (thn (hc pins s σ H _ I h) fun d s1 zq => ?_)
 obtain ⟨H1, I1, q1⟩ := zq
 cases d with
 | true => exact ha pins s1 σ H1 D I1 q1
 | false => exact hb pins s1 σ H1 D I1 q1
end
noncomputable abbrev TG := V → St → Hp → (St → Hp → Prop) → Prop
noncomputable abbrev TGs := List V → St → Hp → (St → Hp → Prop) → Prop
noncomputable def PG (X : Cx) (target : Expr) (t : TG) : Prop :=
 ∀ (pins : List (Addr × Obj)) (s : Shared) (σ : St) (H : Hp) (v : V) (u : Value) (Q : St → Hp → Prop), Inv X pins σ H s → RelV v u → t v σ H Q →
  wpAny (model X.prog X.w) X.A (assign target X.env u) (fun _ s' => ∃ σ' H', Inv X pins σ' H' s' ∧ Q σ' H') X.xe s
noncomputable def PGs (X : Cx) (ts : List Expr) (t : TGs) : Prop :=
 ∀ (pins : List (Addr × Obj)) (s : Shared) (σ : St) (H : Hp) (vs : List V) (us : List Value) (Q : St → Hp → Prop), Inv X pins σ H s → Ae vs us → t vs σ H Q →
  wpAny (model X.prog X.w) X.A (assignInOrder ((assignEach ts X.env).map (·.2)) us) (fun _ s' => ∃ σ' H', Inv X pins σ' H' s' ∧ Q σ' H') X.xe s
noncomputable abbrev TSet := V → V → V → Hp → (Hp → Prop) → Prop
section
variable {X : Cx} {pos : Pos}
noncomputable def Cw (i : Nat) : TG := fun v σ H Q => Q (σ.set i (some v)) H
theorem NX {i : Nat} {x : Str} (hN : X.N.Nodup) (hi : X.N[i]? = some x) (hx : Loc X.env.scope x) (hf : X.fn x = true ∨ X.env.scope.names.lookup x = some .local := by first | exact .inl rfl | exact .inr rfl | assumption) : PG X (.Name x pos) (Cw i) := by
 intro pins s σ H v u Q I r h
 exact wpAny_assign_Name (Kd I hN hi hx r (fun s' I' => ⟨_, H, I', h⟩) hf)
noncomputable def KG : TGs := fun vs σ H Q => vs = [] ∧ Q σ H
noncomputable def Fa (t : TG) (u : TGs) : TGs := fun vs σ H Q => ∃ v r, vs = v :: r ∧ t v σ H fun σ' H' => u r σ' H' Q
theorem Pa : PGs X [] KG := by
 intro pins s σ H vs us Q I r h
 obtain ⟨e, h⟩ := h
 subst e
 cases r
 exact assignInOrder_nil ⟨σ, H, I, h⟩
theorem IF {e : Expr} {es : List Expr} {t : TG} {u : TGs} (h1 : PG X e t) (h2 : PGs X es u)
  (hs : (assignEach (e :: es) X.env).map (·.2) = assign e X.env :: (assignEach es X.env).map (·.2) := by rfl) : PGs X (e :: es) (Fa t u) := by
 intro pins s σ H vs us Q I r h
 obtain ⟨v, vr, e1, h⟩ := h
 subst e1
 cases r with
 | cons r rr =>
  rw [hs]
  refine assignInOrder_cons (thn (h1 pins s σ H _ _ _ I r h) fun _ s1 zq => ?_)
  obtain ⟨σ1, H1, I1, q1⟩ := zq
  exact h2 pins s1 σ1 H1 _ _ Q I1 rr q1
noncomputable def KI (K : W.Frag) (n : Nat) (t : TGs) : TG := fun v σ H Q => ∃ a xs, v = .ref a ∧ SqT K H a xs ∧ xs.length = n ∧ t xs σ H Q
theorem Qr {es : List Expr} {k : Nat} {t : TGs} {n : Nat} (hc : X.calm = true) (h : PGs X es t)
  (hn : (assignEach es X.env).length = n := by rfl) (hst : (assignEach es X.env).findIdx? (·.1) = none := by rfl) : PG X (.Tuple es k pos) (KI X.K n t) := by
 intro pins s σ H v u Q I r hw
 obtain ⟨a, xs, e1, hq, hl, hw⟩ := hw
 subst e1
 cases r
 obtain ⟨its, rv, ht, hz⟩ := I.tuple hq
 refine assign_Tuple_tuple (I.ok.hd hc) ht (by simp [hn, ← hl, rv.length]) hst fun h' hx => ?_
 have I1 : Inv X pins σ H { s with heap := h' } := I.kept (t' := s.toks) fun b o e => hx b o (zP (zA e)) e
 exact h pins _ σ H xs _ Q I1 (by simpa using rv) hw
noncomputable def NK (to ti : TE) (t : TSet) : TG := fun v σ H Q => to σ H fun o H1 => ti σ H1 fun i H2 => t o i v H2 fun H3 => Q σ H3
noncomputable def MD (te : TE) (g : TG) : TS := fun D σ H => te σ H fun x H1 => g x σ H1 D.nx
theorem Uj {i : Nat} {x : Str} {e : Expr} {te : TE} {pos' : Pos} (hN : X.N.Nodup) (hi : X.N[i]? = some x) (hx : Loc X.env.scope x) (he : PE X e te) (hs : swapsWith e (some (.Name x pos')) pos.line X.env = pure false := by rfl) (hf : X.fn x = true ∨ X.env.scope.names.lookup x = some .local := by first | exact .inl rfl | exact .inr rfl | assumption) :
  PS X (.Assign [.Name x pos'] e pos) (MD te (Cw i)) := by
 intro pins s σ H D I h
 refine wpAny_Assign_Name (thn (he pins s σ H _ I h) fun v s1 ⟨y, H1, I1, r1, q1⟩ => ?_) hs
 exact Kd I1 hN hi hx r1 (fun s2 I2 => ⟨_, H1, I2, q1⟩) hf
noncomputable def QS (i j : Nat) (ta : TA) : TS := fun D σ H => ta σ H fun vs H1 => ∃ v w, vs = [v, w] ∧ D.nx ((σ.set i (some v)).set j (some w)) H1
end
section
variable {X : Cx} {pos : Pos}
noncomputable def UT (c : TT) (tb : TS) : TS := fun D σ H => ∃ W : Nat → St → Hp → Prop, (∃ m, W m σ H) ∧ ∀ m σ H, W m σ H →
 c σ H fun b H1 => if b = true then ∃ N : St → Hp → Prop, (∀ σ' H', N σ' H' → ∃ m', m' < m ∧ W m' σ' H') ∧ tb { D with nx := N, ct := N, bk := D.nx } σ H1 else D.nx σ H1
theorem Rg {c : Expr} {body : List Stmt} {tc : TT} {tb : TS} (hp : PassesOwn (model X.prog X.w) X.A X.env X.xe) (hc : PT X c tc) (hb : PSs X body tb) : PS X (.While c body [] pos) (UT tc tb) := by
 intro pins s σ H D I h
 obtain ⟨W, ⟨m0, w0⟩, turn⟩ := h
 refine wpAny_While (codeAny_whileLoop (fun n s' => ∃ σ' H', Inv X pins σ' H' s' ∧ W n σ' H') ?_ m0 ⟨σ, H, I, w0⟩)
 rintro n s1 ⟨σ1, H1, I1, w1⟩
 refine wpAny_passesOwn hp (thn (hc pins s1 σ1 H1 _ I1 (turn n σ1 H1 w1)) fun b s2 zq => ?_)
 obtain ⟨H2, I2, q2⟩ := zq
 cases b with
 | true =>
  obtain ⟨N, hN, q2⟩ := q2
  rw [if_pos rfl]
  refine wpAny_passesOwn hp (thn (hb pins s2 σ1 H2 _ I2 q2) fun f s3 q3 => ?_)
  cases f with
  | next =>
   obtain ⟨σ3, H3, I3, n3⟩ := q3
   obtain ⟨m', hm, w3⟩ := hN σ3 H3 n3
   exact ⟨m', hm, σ3, H3, I3, w3⟩
  | cont =>
   obtain ⟨σ3, H3, I3, n3⟩ := q3
   obtain ⟨m', hm, w3⟩ := hN σ3 H3 n3
   exact ⟨m', hm, σ3, H3, I3, w3⟩
  | brk => exact q3
  | ret v => exact q3
 | false =>
  rw [if_neg zN]
  exact wpAny_execs_nil ⟨σ1, H2, I2, q2⟩
end
structure It where
 go : Nat → Hp → Prop
 yld : Nat → Hp → V → Hp → Prop
 stop : Nat → Hp → Prop
noncomputable def Hi (X : Cx) (pins : List (Addr × Obj)) (H : Hp) (b : Addr) : Prop :=
 H b = none ∧ b ≠ X.env.locals ∧ b ∉ X.fs ∧ (b ∈ X.ex ∨ X.s₀.heap.objs.size ≤ b) ∧ (∀ x c, X.env.cells.lookup x = some c → c ≠ b) ∧ ∀ p ∈ X.pn ++ pins, p.1 ≠ b
theorem Inv.fpOk {X : Cx} {pins : List (Addr × Obj)} {σ : St} {H H' : Hp} {s : Shared} {b : Addr} (I : Inv X pins σ H s) (hb : s.heap.objs.size ≤ b) (hn : H' b = none) : Hi X pins H' b := by
 refine ⟨hn, zi (z9 I.lt hb), I.nofs hb, .inr (zL I.sz hb), fun x c e z => ?_, fun p hp z => ?_⟩
 ·obtain ⟨v, q⟩ := I.cell x c e
  exact absurd (z9 q.lt (by rw [z]; exact hb)) (zf _)
 ·exact absurd (z9 (zA (I.pin p hp).1) (by rw [z]; exact hb)) (zf _)
structure Nv (P : Program) (w : World) (K : W.Frag) (tg : Expr) (J : It) (fp : List Addr) (it : Addr) (tn : Nat → Heap → Prop) : Prop where
 mem : it ∈ fp
 obj : ∀ i h, tn i h → ∀ b ∈ fp, ∃ o, h.get? b = some o ∧ ∀ v, o.data ≠ .cell v
 keep : ∀ i h h', tn i h → (∀ b ∈ fp, ∀ o, h.get? b = some o → h'.get? b = some o) → tn i h'
 item : ∀ (X : Cx), X.prog = P → X.w = w → X.K = K → X.calm = true → ∀ (i : Nat) (pins : List (Addr × Obj)) (s : Shared) (σ : St) (H : Hp) (E : Value → Shared → Prop), Inv X pins σ H s → (∀ b ∈ fp, Hi X pins H b) → tn i s.heap → J.go i H →
  wpAny (model P w) X.A (pyNext (.ref it)) (fun r s1 => ∃ u, r = some u ∧
   wpAny (model P w) X.A (letOwnedTupleGo tg (.ref it) u) (fun _ s2 => ∃ x H', Inv X pins σ H' s2 ∧ RelV x u ∧ J.yld i H x H' ∧ tn (i + 1) s2.heap ∧ ∀ b ∈ fp, H' b = none) E s1) E s
 done : ∀ (X : Cx), X.prog = P → X.w = w → X.K = K → X.calm = true → ∀ (i : Nat) (pins : List (Addr × Obj)) (s : Shared) (σ : St) (H : Hp) (E : Value → Shared → Prop), Inv X pins σ H s → (∀ b ∈ fp, Hi X pins H b) → tn i s.heap → J.stop i H →
  wpAny (model P w) X.A (pyNext (.ref it)) (fun r s1 => r = none ∧ Inv X pins σ H s1) E s
 self : ∀ (A : Around) (i : Nat) (s : Shared) (Q : Value → Shared → Prop) (E : Value → Shared → Prop), tn i s.heap → Q (.ref it) s → wpAny (model P w) A (pyIter (.ref it)) Q E s
noncomputable abbrev TI := St → Hp → (It → Hp → Prop) → Prop
noncomputable def PIE (X : Cx) (pins : List (Addr × Obj)) (σ : St) (tg : Expr) (R : It → Hp → Prop) (itv : Value) (s2 : Shared) : Prop :=
 ∃ (it : Addr) (fp : List Addr) (tn : Nat → Heap → Prop) (J : It) (H' : Hp), itv = .ref it ∧ Inv X pins σ H' s2 ∧ Nv X.prog X.w X.K tg J fp it tn ∧ tn 0 s2.heap ∧ (∀ b ∈ fp, Hi X pins H' b) ∧ R J H'
noncomputable def PI (X : Cx) (tg iter : Expr) (wi : TI) : Prop :=
 ∀ (pins : List (Addr × Obj)) (s : Shared) (σ : St) (H : Hp) (R : It → Hp → Prop), Inv X pins σ H s → wi σ H R →
  wpAny (model X.prog X.w) X.A (eval iter X.env) (fun v s1 => wpAny (model X.prog X.w) X.A (pyIter v) (PIE X pins σ tg R) X.xe s1) X.xe s
theorem O8 {M : Model} {A : Around} {E : Value → Shared → Prop} {s : Shared} {tg : Expr} {it : Addr} {u : Value} {o : Obj} {n : String} {vs : Array Value} {Q : Unit → Shared → Prop} (ho : s.heap.get? it = some o) (hc : o.cls = .type n) (hd : o.data = .fields vs)
  (hn : ["enumerate", "zip", "dict_itemiterator", "dict_reverseitemiterator", "odict_iterator", "itertools.zip_longest", "itertools.pairwise"].contains n = false) (hQ : Q () s) : wpAny M A (letOwnedTupleGo tg (.ref it) u) Q E s := by
 unfold letOwnedTupleGo
 cases tg <;> first
  | exact wpAny_pure hQ
  | (cases u <;> first
    | exact wpAny_pure hQ
    | (refine wpAny_bind (wpAny_load ho ?_)
       rw [hc, hd]
       show wpAny M A (if (["enumerate", "zip", "dict_itemiterator", "dict_reverseitemiterator", "odict_iterator", "itertools.zip_longest", "itertools.pairwise"].contains n && vs[0]? == some (rawInt _)) = true then _ else _) Q E s
       rw [if_neg (by intro h; rw [hn, Bool.false_and] at h; cases h)]
       exact wpAny_pure hQ))
noncomputable def Itl (K : W.Frag) (a : Addr) : It :=
 ⟨fun i H => ∃ xs x, SqL K H a xs ∧ xs[i]? = some x, fun i H x H' => H' = H ∧ ∀ xs, SqL K H a xs → xs[i]? = some x, fun i H => ∃ xs, SqL K H a xs ∧ xs.length ≤ i⟩
noncomputable def Itt (K : W.Frag) (a : Addr) : It :=
 ⟨fun i H => ∃ xs x, SqT K H a xs ∧ xs[i]? = some x, fun i H x H' => H' = H ∧ ∀ xs, SqT K H a xs → xs[i]? = some x, fun i H => ∃ xs, SqT K H a xs ∧ xs.length ≤ i⟩
noncomputable def Itr (lo : Int) (n : Nat) : It := ⟨fun i _ => i < n, fun i H x H' => H' = H ∧ x = .int (lo + i), fun i _ => n ≤ i⟩
theorem P8 {P : Program} {w : World} {K : W.Frag} {tg : Expr} (a it : Addr) : Nv P w K tg (Itl K a) [it] it (fun i h => h.IsListIter it a i) where
 mem := by simp
 obj := fun i h st b hb => by
  have e : b = it := by simpa using hb
  subst e
  obtain ⟨o, e, c, d⟩ := st
  exact ⟨o, e, fun v z => by rw [d] at z; cases z⟩
 keep := fun i h h' st k => st.at fun o e => k it (by simp) o e
 item := by
  intro X hP hw hK hc i pins s σ H E I hf st hg
  subst hP hw hK
  obtain ⟨xs, x, hq, hx⟩ := hg
  obtain ⟨its, rv, p, hz⟩ := I.list hq
  obtain ⟨u, hu, ru⟩ := rv.get hx
  obtain ⟨f0, f1, f2, f3, f4, f5⟩ := hf it (by simp)
  refine wpAny_pyNext_list_item st p.isList (x := u) (by simpa using hu) fun h' st' sb => ?_
  have I1 : Inv X pins σ H { s with heap := h' } := I.turned (t' := s.toks) (fun b o hb e => (sb.2 b hb).trans e) f0 f1 f3 f4 f5
  obtain ⟨o, e, c, d⟩ := id st'
  exact ⟨u, rfl, O8 (s := { s with heap := h' }) e c d (by decide) ⟨x, H, I1, ru, ⟨rfl, fun ys hy => by rw [I.list_inj hy hq]; exact hx⟩, st', fun b hb => (hf b hb).1⟩⟩
 done := by
  intro X hP hw hK hc i pins s σ H E I hf st hg
  subst hP hw hK
  obtain ⟨xs, hq, hx⟩ := hg
  obtain ⟨its, rv, p, hz⟩ := I.list hq
  obtain ⟨f0, f1, f2, f3, f4, f5⟩ := hf it (by simp)
  have hl := rv.length
  exact wpAny_pyNext_list_end (I.ok.hd hc) st p.isList (by simp; lia) fun h' eb => ⟨rfl, I.turned (t' := s.toks) (fun b o hb e => eb b o hb e) f0 f1 f3 f4 f5⟩
 self := fun _ _ _ _ _ st h => wpAny_pyIter_listiter st h
theorem O0 {P : Program} {w : World} {K : W.Frag} {tg : Expr} (a it : Addr) : Nv P w K tg (Itt K a) [it] it (fun i h => h.IsTupleIter it a i) where
 mem := by simp
 obj := fun i h st b hb => by
  have e : b = it := by simpa using hb
  subst e
  obtain ⟨o, e, c, d⟩ := st
  exact ⟨o, e, fun v z => by rw [d] at z; cases z⟩
 keep := fun i h h' st k => st.at fun o e => k it (by simp) o e
 item := by
  intro X hP hw hK hc i pins s σ H E I hf st hg
  subst hP hw hK
  obtain ⟨xs, x, hq, hx⟩ := hg
  obtain ⟨its, rv, p, hz⟩ := I.tuple hq
  obtain ⟨u, hu, ru⟩ := rv.get hx
  obtain ⟨f0, f1, f2, f3, f4, f5⟩ := hf it (by simp)
  refine wpAny_pyNext_tuple_item st (show s.heap.IsTuple a its.toArray from p) (x := u) (by simpa using hu) fun h' st' sb => ?_
  have I1 : Inv X pins σ H { s with heap := h' } := I.turned (t' := s.toks) (fun b o hb e => (sb.2 b hb).trans e) f0 f1 f3 f4 f5
  obtain ⟨o, e, c, d⟩ := id st'
  exact ⟨u, rfl, O8 (s := { s with heap := h' }) e c d (by decide) ⟨x, H, I1, ru, ⟨rfl, fun ys hy => by rw [I.tuple_inj hy hq]; exact hx⟩, st', fun b hb => (hf b hb).1⟩⟩
 done := by
  intro X hP hw hK hc i pins s σ H E I hf st hg
  subst hP hw hK
  obtain ⟨xs, hq, hx⟩ := hg
  obtain ⟨its, rv, p, hz⟩ := I.tuple hq
  obtain ⟨f0, f1, f2, f3, f4, f5⟩ := hf it (by simp)
  have hl := rv.length
  exact wpAny_pyNext_tuple_end (I.ok.hd hc) st (show s.heap.IsTuple a its.toArray from p) (by simp; lia) fun h' eb => ⟨rfl, I.turned (t' := s.toks) (fun b o hb e => eb b o hb e) f0 f1 f3 f4 f5⟩
 self := fun _ _ _ _ _ st h => wpAny_pyIter_tupleiter st h
theorem Od {P : Program} {w : World} {K : W.Frag} {tg : Expr} (it : Addr) (lo : Int) (n : Nat) : Nv P w K tg (Itr lo n) [it] it (fun i h => IsRangeIter h it (lo + (i : Nat) * 1) ((n : Int) - (i : Nat)) 1) where
 mem := by simp
 obj := fun i h st b hb => by
  have e : b = it := by simpa using hb
  subst e
  exact ⟨_, st, fun v z => by
   have z' : Data.fields _ = Data.cell v := z
   cases z'⟩
 keep := fun i h h' st k => k it (by simp) _ st
 item := by
  intro X hP hw hK hc i pins s σ H E I hf st hg
  subst hP hw hK
  obtain ⟨f0, f1, f2, f3, f4, f5⟩ := hf it (by simp)
  have W := Walks.range (prog := X.prog) (w := X.w) (I.ok.hd hc) it lo 1 n
  refine W.item i s _ _ hg st fun v h' tk hv st' kk => ?_
  obtain ⟨t, rfl⟩ := hv
  have I1 : Inv X pins σ H { s with heap := h', toks := tk } := I.turned (fun b o hb e => kk b o (by simpa using hb) e) f0 f1 f3 f4 f5
  refine ⟨_, rfl, O8 (s := { s with heap := h', toks := tk }) (n := "range_iterator") st' rfl rfl (by decide) ⟨.int (lo + i), H, I1, ⟨t, ?_⟩, ⟨rfl, rfl⟩, st', fun b hb => (hf b hb).1⟩⟩
  rw [Int.mul_one]
 done := by
  intro X hP hw hK hc i pins s σ H E I hf st hg
  subst hP hw hK
  obtain ⟨f0, f1, f2, f3, f4, f5⟩ := hf it (by simp)
  exact wpAny_pyNext_range_end (I.ok.hd hc) st (by have : n ≤ i := hg; lia) fun h' eb => ⟨rfl, I.turned (t' := s.toks) (fun b o hb e => eb b o hb e) f0 f1 f3 f4 f5⟩
 self := fun _ _ _ _ _ st h => wpAny_pyIter_rangeiter st h
section
variable {X : Cx} {tg : Expr}
noncomputable def J8 (K : W.Frag) (tl : TE) : TI := fun σ H R => tl σ H fun x H1 => ∃ a, x = .ref a ∧ (∃ xs, SqL K H1 a xs) ∧ R (Itl K a) H1
noncomputable def iTup (K : W.Frag) (tl : TE) : TI := fun σ H R => tl σ H fun x H1 => ∃ a, x = .ref a ∧ (∃ xs, SqT K H1 a xs) ∧ R (Itt K a) H1
theorem Cd {l : Expr} {tl : TE} (hl : PE X l tl) : PI X tg l (J8 X.K tl) := by
 intro pins s σ H R I h
 refine thn (hl pins s σ H _ I h) fun v s1 zq => ?_
 obtain ⟨x, H1, I1, r1, q1⟩ := zq
 obtain ⟨a, e, ⟨xs, hq⟩, q⟩ := q1
 subst e
 cases r1
 obtain ⟨its, rv, p, hz⟩ := I1.list hq
 refine wpAny_pyIter_list p.isList ?_
 refine ⟨s1.heap.objs.size, [s1.heap.objs.size], _, _, H1, rfl, I1.kept (t' := s1.toks) fun b o e => z7 _ e, P8 a _, ⟨_, zM _ rfl, rfl, rfl⟩, fun b hb => ?_, q⟩
 have e : b = s1.heap.objs.size := by simpa using hb
 subst e
 exact I1.fpOk (zB _) (I1.hok.fresh (zB _))
theorem QY {l : Expr} {tl : TE} (hl : PE X l tl) : PI X tg l (iTup X.K tl) := by
 intro pins s σ H R I h
 refine thn (hl pins s σ H _ I h) fun v s1 zq => ?_
 obtain ⟨x, H1, I1, r1, q1⟩ := zq
 obtain ⟨a, e, ⟨xs, hq⟩, q⟩ := q1
 subst e
 cases r1
 obtain ⟨its, rv, p, hz⟩ := I1.tuple hq
 refine wpAny_pyIter_tuple (show s1.heap.IsTuple a its.toArray from p) ?_
 refine ⟨s1.heap.objs.size, [s1.heap.objs.size], _, _, H1, rfl, I1.kept (t' := s1.toks) fun b o e => z7 _ e, O0 a _, ⟨_, zM _ rfl, rfl, rfl⟩, fun b hb => ?_, q⟩
 have e : b = s1.heap.objs.size := by simpa using hb
 subst e
 exact I1.fpOk (zB _) (I1.hok.fresh (zB _))
theorem Nl {pins : List (Addr × Obj)} {σ : St} {H : Hp} {s : Shared} {R : It → Hp → Prop} {E : Value → Shared → Prop} {lo hi : Int} {t u v : Tok} {tk : Nat} (I : Inv X pins σ H s) (h1 : -(2 ^ 62) ≤ lo) (h2 : lo < 2 ^ 62) (h3 : -(2 ^ 62) ≤ hi) (h4 : hi < 2 ^ 62)
  (q : R (Itr lo (hi - lo).toNat) H) : wpAny (model X.prog X.w) X.A (pyIter (.ref s.heap.objs.size)) (PIE X pins σ tg R) E { s with heap := s.heap.push { cls := .type "range", data := .fields #[.int lo t, .int hi u, .int 1 v] }, toks := tk } := by
 refine wpAny_pyIter_range (IsRange.new ..) (small_one h1 h2 h3 h4) ?_
 have I1 : Inv X pins σ H { s with heap := s.heap.push { cls := .type "range", data := .fields #[.int lo t, .int hi u, .int 1 v] }, toks := tk } := I.kept fun b o e => z7 _ e
 refine ⟨(s.heap.push { cls := .type "range", data := .fields #[.int lo t, .int hi u, .int 1 v] }).objs.size, [(s.heap.push { cls := .type "range", data := .fields #[.int lo t, .int hi u, .int 1 v] }).objs.size], _, _, H, rfl,
  I1.kept (t' := tk) fun b o e => z7 _ e, Od _ lo (hi - lo).toNat, ?_, fun b hb => ?_, q⟩
 ·have e1 : lo + ((0 : Nat) : Int) * 1 = lo := by simp
  have e2 : (((hi - lo).toNat : Nat) : Int) - ((0 : Nat) : Int) = Builtin.Range.rangeSize lo hi 1 := by rw [rangeSize_one]; split <;> lia
  show IsRangeIter _ _ (lo + ((0 : Nat) : Int) * 1) ((((hi - lo).toNat : Nat) : Int) - ((0 : Nat) : Int)) 1
  rw [e1, e2]
  exact zM _ rfl
 ·have e : b = (s.heap.push { cls := .type "range", data := .fields #[.int lo t, .int hi u, .int 1 v] }).objs.size := by simpa using hb
  subst e
  exact I1.fpOk (zB _) (I1.hok.fresh (zB _))
noncomputable def G4 (ta : TA) : TI := fun σ H R => ta σ H fun vs H1 => ∃ j : Int, vs = [.int j] ∧ -(2 ^ 62) ≤ j ∧ j < 2 ^ 62 ∧ R (Itr 0 j.toNat) H1
noncomputable def Gs (ta : TA) : TI := fun σ H R => ta σ H fun vs H1 => ∃ i j : Int, vs = [.int i, .int j] ∧ (-(2 ^ 62) ≤ i ∧ i < 2 ^ 62 ∧ -(2 ^ 62) ≤ j ∧ j < 2 ^ 62) ∧ R (Itr i (j - i).toNat) H1
theorem Ja {a : Expr} {ta : TA} {p pos : Pos} (hg : Gl X "range") (hm : X.mg "range" = none) (ha : PA X [a] ta) (hs : starEach [a] X.env = [(false, eval a X.env)] := by rfl) : PI X tg (.Call (.Name "range" p) [a] [] pos) (G4 ta) := by
 intro pins s σ H R I h
 refine Call_ (Hk I hg hm boot_range (PyProof.Rows.callWith_type1 (thn (ha pos pins s σ H _ I h) fun us s1 ⟨vs, H1, I1, r1, q1⟩ => ?_) hs rfl))
 obtain ⟨j, e, q1, q2, q⟩ := q1
 subst e
 cases r1 with
 | cons r rr =>
  cases rr
  obtain ⟨t, rfl⟩ := r
  exact call_range_1 (Nl I1 (by lia) (by lia) q1 q2 (by simpa using q))
theorem MW {a b : Expr} {ta : TA} {p pos : Pos} (hg : Gl X "range") (hm : X.mg "range" = none) (ha : PA X [a, b] ta) (hs : starEach [a, b] X.env = [(false, eval a X.env), (false, eval b X.env)] := by rfl) (hs2 : starEach [b] X.env = [(false, eval b X.env)] := by rfl) :
  PI X tg (.Call (.Name "range" p) [a, b] [] pos) (Gs ta) := by
 intro pins s σ H R I h
 refine Call_ (Hk I hg hm boot_range (PyProof.Rows.callWith_type1 (thn (ha pos pins s σ H _ I h) fun us s1 ⟨vs, H1, I1, r1, q1⟩ => ?_) (by rw [hs, hs2]) (by rw [hs2]; rfl)))
 obtain ⟨i, j, e, ⟨q1, q2, q3, q4⟩, q⟩ := q1
 subst e
 cases r1 with
 | cons r rr =>
  cases rr with
  | cons r' rr =>
   cases rr
   obtain ⟨t, rfl⟩ := r
   obtain ⟨t', rfl⟩ := r'
   exact call_range_2 (Nl I1 q1 q2 q3 q4 q)
noncomputable def tFor (wi : TI) (g : TG) (tb : TS) : TS := fun D σ H => wi σ H fun J H1 => ∃ W : Nat → Nat → St → Hp → Prop, (∃ m, W 0 m σ H1) ∧ ∀ i m σ H, W i m σ H →
 (J.stop i H ∧ D.nx σ H) ∨ (J.go i H ∧ ∃ N : St → Hp → Prop, (∀ σ' H', N σ' H' → ∃ m', m' < m ∧ W (i + 1) m' σ' H') ∧ ∀ x H', J.yld i H x H' → g x σ H' fun σ2 H2 => tb { D with nx := N, ct := N, bk := D.nx } σ2 H2)
noncomputable def Hg (fp : List Addr) (h : Heap) : List (Addr × Obj) := fp.filterMap fun b => (h.get? b).map fun o => (b, o)
theorem B0 {fp : List Addr} {h : Heap} {b : Addr} {o : Obj} (hb : b ∈ fp) (e : h.get? b = some o) : (b, o) ∈ Hg fp h := List.mem_filterMap.mpr ⟨b, hb, by rw [e]; rfl⟩
theorem QG {fp : List Addr} {h : Heap} {p : Addr × Obj} (hp : p ∈ Hg fp h) : p.1 ∈ fp ∧ h.get? p.1 = some p.2 := by
 obtain ⟨b, hb, e⟩ := List.mem_filterMap.mp hp
 cases q : h.get? b with
 | none => rw [q] at e; cases e
 | some o =>
  rw [q] at e
  have e' : (b, o) = p := zI e
  subst e'
  exact ⟨hb, q⟩
theorem Inv.pinned {pins : List (Addr × Obj)} {σ : St} {H : Hp} {s : Shared} {fp : List Addr} (I : Inv X pins σ H s) (hf : ∀ b ∈ fp, Hi X pins H b) (ho : ∀ b ∈ fp, ∃ o, s.heap.get? b = some o ∧ ∀ v, o.data ≠ .cell v) : Inv X (pins ++ Hg fp s.heap) σ H s :=
 I.pins_of fun p hp => (zg.mp hp).elim (fun z => I.pin p (zO _ z)) fun z => by
  obtain ⟨hb, e⟩ := QG z
  obtain ⟨f0, f1, f2, _⟩ := hf p.1 hb
  obtain ⟨o, e', d⟩ := ho p.1 hb
  rw [e] at e'; cases e'
  exact ⟨e, f0, f1, f2, d⟩
theorem Inv.unpinned {pins pl : List (Addr × Obj)} {σ : St} {H : Hp} {s : Shared} (I : Inv X (pins ++ pl) σ H s) : Inv X pins σ H s := I.pins_of fun p hp => I.pin p (zO _ (zy _ hp))
theorem Cr {iter : Expr} {body : List Stmt} {wi : TI} {g : TG} {tb : TS} {pos : Pos} (hp : PassesOwn (model X.prog X.w) X.A X.env X.xe) (hc : X.calm = true) (hi : PI X tg iter wi) (hg : PG X tg g) (hb : PSs X body tb)
  (hs : ∀ x, foldedSetIterable iter X.env x = pure x := by intro _; rfl) : PS X (.For tg iter body [] pos) (tFor wi g tb) := by
 intro pins s σ H D I h
 refine wpAny_For (thn (hi pins s σ H _ I h) fun v s1 h1 => thn h1 fun itv s2 h2 => ?_) hs
 obtain ⟨it, fp, tn, J, H2, e, I2, T, st2, f2, W, ⟨m0, w0⟩, turn⟩ := h2
 subst e
 have stat : ∀ {H' : Hp}, (∀ b ∈ fp, H' b = none) → ∀ b ∈ fp, Hi X pins H' b := fun hn b hb => ⟨hn b hb, (f2 b hb).2⟩
 refine codeAny_forLoop_any (fun n s' => ∃ i σ' H', Inv X pins σ' H' s' ∧ tn i s'.heap ∧ (∀ b ∈ fp, H' b = none) ∧ W i n σ' H') ?_ m0 ⟨0, σ, H2, I2, st2, fun b hb => (f2 b hb).1, w0⟩
 rintro n s3 ⟨i, σ3, H3, I3, st3, fr3, w3⟩
 rcases turn i n σ3 H3 w3 with ⟨stop, qn⟩ | ⟨go, N, hN, step⟩
 ·refine wpAny_passesOwn hp (thn (T.done X rfl rfl rfl hc i pins s3 σ3 H3 X.xe I3 (stat fr3) st3 stop) fun r s4 zq => ?_)
  obtain ⟨hr, I4⟩ := zq
  subst hr
  exact wpAny_execs_nil ⟨σ3, H3, I4, qn⟩
 ·refine wpAny_passesOwn hp (thn (T.item X rfl rfl rfl hc i pins s3 σ3 H3 X.xe I3 (stat fr3) st3 go) fun r s4 zq => ?_)
  obtain ⟨u, hr, h4⟩ := zq
  subst hr
  refine wpAny_passesOwn hp (thn h4 fun _ s5 zq => ?_)
  obtain ⟨x, H5, I5, r5, y5, st5, fr5⟩ := zq
  have I5' := I5.pinned (stat fr5) (T.obj _ _ st5)
  refine wpAny_passesOwn hp (thn (hg _ s5 σ3 H5 x u _ I5' r5 (step x H5 y5)) fun _ s6 zq => ?_)
  obtain ⟨σ6, H6, I6, q6⟩ := zq
  refine wpAny_passesOwn hp (thn (hb _ s6 σ6 H6 _ I6 q6) fun f s7 q7 => ?_)
  have again : ∀ {σ7 : St} {H7 : Hp}, Inv X (pins ++ Hg fp s5.heap) σ7 H7 s7 → N σ7 H7 → ∃ m, m < n ∧ ∃ i σ' H', Inv X pins σ' H' s7 ∧ tn i s7.heap ∧ (∀ b ∈ fp, H' b = none) ∧ W i m σ' H' := fun {σ7 H7} I7 n7 => by
   obtain ⟨m', hm, w7⟩ := hN σ7 H7 n7
   refine ⟨m', hm, i + 1, σ7, H7, I7.unpinned, T.keep _ _ _ st5 fun b hb o e => (I7.pin (b, o) (zO _ (zO _ (B0 hb e)))).1, fun b hb => ?_, w7⟩
   obtain ⟨o, e, d⟩ := T.obj _ _ st5 b hb
   exact (I7.pin (b, o) (zO _ (zO _ (B0 hb e)))).2.1
  cases f with
  | next => obtain ⟨σ7, H7, I7, n7⟩ := q7; exact again I7 n7
  | cont => obtain ⟨σ7, H7, I7, n7⟩ := q7; exact again I7 n7
  | brk => obtain ⟨σ7, H7, I7, q7⟩ := q7; exact ⟨σ7, H7, I7.unpinned, q7⟩
  | ret v => obtain ⟨x7, σ7, H7, I7, r7, q7⟩ := q7; exact ⟨x7, σ7, H7, I7.unpinned, r7, q7⟩
end
theorem LQ {K : W.Frag} {a : Addr} {xs : List V} {g : TG} {tb : TS} {D : Hr} {σ : St} {H : Hp} (Pv : Nat → St → Hp → Prop) (h0 : Pv 0 σ H) (hl : ∀ i σ H, i ≤ xs.length → Pv i σ H → SqL K H a xs)
  (hs : ∀ i x σ H, xs[i]? = some x → Pv i σ H → g x σ H fun σ2 H2 => tb { D with nx := Pv (i + 1), ct := Pv (i + 1), bk := D.nx } σ2 H2) (hd : ∀ σ H, Pv xs.length σ H → D.nx σ H) :
  ∃ W : Nat → Nat → St → Hp → Prop, (∃ m, W 0 m σ H) ∧ ∀ i m σ H, W i m σ H →
   ((Itl K a).stop i H ∧ D.nx σ H) ∨ ((Itl K a).go i H ∧ ∃ N : St → Hp → Prop, (∀ σ' H', N σ' H' → ∃ m', m' < m ∧ W (i + 1) m' σ' H') ∧ ∀ x H', (Itl K a).yld i H x H' → g x σ H' fun σ2 H2 => tb { D with nx := N, ct := N, bk := D.nx } σ2 H2) := by
 refine ⟨fun i m σ H => m = xs.length - i ∧ i ≤ xs.length ∧ Pv i σ H, ⟨xs.length, by simp, zc _, h0⟩, ?_⟩
 rintro i m σ H ⟨rfl, hi, p⟩
 have q := hl i σ H hi p
 by_cases hlt : i < xs.length
 ·refine .inr ⟨⟨xs, xs[i], q, by simp [hlt]⟩, Pv (i + 1), fun σ' H' p' => ⟨xs.length - (i + 1), by lia, rfl, hlt, p'⟩, fun x H' y => ?_⟩
  obtain ⟨e, y⟩ := y
  subst e
  exact hs i x σ _ (y xs q) p
 ·have e : i = xs.length := by lia
  subst e
  exact .inl ⟨⟨xs, q, zB _⟩, hd σ H p⟩
theorem PH {K : W.Frag} {a : Addr} {xs : List V} {g : TG} {tb : TS} {D : Hr} {σ : St} {H : Hp} (Pv : Nat → St → Hp → Prop) (h0 : Pv 0 σ H) (hl : ∀ i σ H, i ≤ xs.length → Pv i σ H → SqT K H a xs)
  (hs : ∀ i x σ H, xs[i]? = some x → Pv i σ H → g x σ H fun σ2 H2 => tb { D with nx := Pv (i + 1), ct := Pv (i + 1), bk := D.nx } σ2 H2) (hd : ∀ σ H, Pv xs.length σ H → D.nx σ H) :
  ∃ W : Nat → Nat → St → Hp → Prop, (∃ m, W 0 m σ H) ∧ ∀ i m σ H, W i m σ H →
   ((Itt K a).stop i H ∧ D.nx σ H) ∨ ((Itt K a).go i H ∧ ∃ N : St → Hp → Prop, (∀ σ' H', N σ' H' → ∃ m', m' < m ∧ W (i + 1) m' σ' H') ∧ ∀ x H', (Itt K a).yld i H x H' → g x σ H' fun σ2 H2 => tb { D with nx := N, ct := N, bk := D.nx } σ2 H2) := by
 refine ⟨fun i m σ H => m = xs.length - i ∧ i ≤ xs.length ∧ Pv i σ H, ⟨xs.length, by simp, zc _, h0⟩, ?_⟩
 rintro i m σ H ⟨rfl, hi, p⟩
 have q := hl i σ H hi p
 by_cases hlt : i < xs.length
 ·refine .inr ⟨⟨xs, xs[i], q, by simp [hlt]⟩, Pv (i + 1), fun σ' H' p' => ⟨xs.length - (i + 1), by lia, rfl, hlt, p'⟩, fun x H' y => ?_⟩
  obtain ⟨e, y⟩ := y
  subst e
  exact hs i x σ _ (y xs q) p
 ·have e : i = xs.length := by lia
  subst e
  exact .inl ⟨⟨xs, q, zB _⟩, hd σ H p⟩
theorem ES {lo : Int} {n : Nat} {g : TG} {tb : TS} {D : Hr} {σ : St} {H : Hp} (Pv : Nat → St → Hp → Prop) (h0 : Pv 0 σ H)
  (hs : ∀ i σ H, i < n → Pv i σ H → g (.int (lo + i)) σ H fun σ2 H2 => tb { D with nx := Pv (i + 1), ct := Pv (i + 1), bk := D.nx } σ2 H2) (hd : ∀ σ H, Pv n σ H → D.nx σ H) :
  ∃ W : Nat → Nat → St → Hp → Prop, (∃ m, W 0 m σ H) ∧ ∀ i m σ H, W i m σ H →
   ((Itr lo n).stop i H ∧ D.nx σ H) ∨ ((Itr lo n).go i H ∧ ∃ N : St → Hp → Prop, (∀ σ' H', N σ' H' → ∃ m', m' < m ∧ W (i + 1) m' σ' H') ∧ ∀ x H', (Itr lo n).yld i H x H' → g x σ H' fun σ2 H2 => tb { D with nx := N, ct := N, bk := D.nx } σ2 H2) := by
 refine ⟨fun i m σ H => m = n - i ∧ i ≤ n ∧ Pv i σ H, ⟨n, by simp, zc _, h0⟩, ?_⟩
 rintro i m σ H ⟨rfl, hi, p⟩
 by_cases hlt : i < n
 ·refine .inr ⟨hlt, Pv (i + 1), fun σ' H' p' => ⟨n - (i + 1), by lia, rfl, hlt, p'⟩, fun x H' y => ?_⟩
  obtain ⟨e, y⟩ := y
  subst e y
  exact hs i σ _ hlt p
 ·have e : i = n := by lia
  subst e
  exact .inl ⟨zB _, hd σ H p⟩
noncomputable abbrev R2 := V → V → Hp → VK → Prop
noncomputable def OpR (X : Cx) (f : Value → Value → Sem Value) (r : R2) : Prop :=
 ∀ (pins : List (Addr × Obj)) (s : Shared) (σ : St) (H : Hp) (x y : V) (v u : Value) (Q : VK), Inv X pins σ H s → RelV x v → RelV y u → r x y H Q →
  wpAny (model X.prog X.w) X.A (f v u) (EP X pins σ Q) X.xe s
noncomputable def UnR (X : Cx) (f : Value → Sem Value) (r : V → Hp → VK → Prop) : Prop :=
 ∀ (pins : List (Addr × Obj)) (s : Shared) (σ : St) (H : Hp) (x : V) (v : Value) (Q : VK), Inv X pins σ H s → RelV x v → r x H Q →
  wpAny (model X.prog X.w) X.A (f v) (EP X pins σ Q) X.xe s
noncomputable def B2 (X : Cx) (f : Value) (r : List V → Hp → VK → Prop) : Prop :=
 ∀ (pins : List (Addr × Obj)) (s : Shared) (σ : St) (H : Hp) (xs : List V) (us : List Value) (Q : VK), Inv X pins σ H s → Ae xs us → r xs H Q →
  wpAny (model X.prog X.w) X.A (call f us) (EP X pins σ Q) X.xe s
noncomputable def tOp (r : R2) (ta tb : TE) : TE := fun σ H Q => ta σ H fun x H1 => tb σ H1 fun y H2 => r x y H2 Q
noncomputable def tUn (r : V → Hp → VK → Prop) (ta : TE) : TE := fun σ H Q => ta σ H fun x H1 => r x H1 Q
noncomputable def rI (C : Int → Int → Prop) (g : Int → Int → V) : R2 := fun x y H Q => ∃ i j, x = .int i ∧ y = .int j ∧ C i j ∧ Q (g i j) H
noncomputable def rI0 (g : Int → Int → V) : R2 := fun x y H Q => ∃ i j, x = .int i ∧ y = .int j ∧ Q (g i j) H
noncomputable def rU (g : Int → V) : V → Hp → VK → Prop := fun x H Q => ∃ i, x = .int i ∧ Q (g i) H
section
variable {X : Cx} {a b c : Expr} {ta tb tc : TE} {pos : Pos}
theorem UX (ha : PE X a ta) (hb : PE X b tb) {pins : List (Addr × Obj)} {s : Shared} {σ : St} {H : Hp} {R : V → V → Hp → Prop} (I : Inv X pins σ H s)
  (h : ta σ H fun x H1 => tb σ H1 fun y H2 => R x y H2) {Q : Value → Shared → Prop} {f : Value → Value → Sem Value}
  (hf : ∀ v u s2 x y H2, Inv X pins σ H2 s2 → RelV x v → RelV y u → R x y H2 → wpAny (model X.prog X.w) X.A (f v u) Q X.xe s2) :
  wpAny (model X.prog X.w) X.A (eval a X.env) (fun v s₁ => wpAny (model X.prog X.w) X.A (eval b X.env) (fun u s₂ => wpAny (model X.prog X.w) X.A (f v u) Q X.xe s₂) X.xe s₁) X.xe s := by
 refine thn (ha pins s σ H _ I h) fun v s1 zq => ?_
 obtain ⟨x, H1, I1, r1, q1⟩ := zq
 refine thn (hb pins s1 σ H1 _ I1 q1) fun u s2 zq => ?_
 obtain ⟨y, H2, I2, r2, q2⟩ := zq
 exact hf v u s2 x y H2 I2 r1 r2 q2
theorem AV {op : Operator} {r : R2} (ho : OpR X (binaryOp op) r) (ha : PE X a ta) (hb : PE X b tb) : PE X (.BinOp a op b pos) (tOp r ta tb) := by
 intro pins s σ H Q I h
 exact wpAny_BinOp (UX ha hb I h fun v u s2 x y H2 I2 rx ry q => ho pins s2 σ H2 x y v u Q I2 rx ry q)
theorem JJ {op : UnaryOp} {r : V → Hp → VK → Prop} (ho : UnR X (unaryOp op) r) (ha : PE X a ta) : PE X (.UnaryOp op a pos) (tUn r ta) := by
 intro pins s σ H Q I h
 exact UnaryOp_ (thn (ha pins s σ H _ I h) fun v s1 ⟨x, H1, I1, r1, q1⟩ => ho pins s1 σ H1 x v Q I1 r1 q1)
theorem opI {f : Value → Value → Sem Value} {C : Int → Int → Prop} {g : Int → Int → Int}
  (rule : ∀ (i j : Int) (t u : Tok) (s : Shared) (Q : Value → Shared → Prop) (E : Value → Shared → Prop), C i j → Q (.int (g i j) s.toks) { s with toks := s.toks + 1 } → wpAny (model X.prog X.w) X.A (f (.int i t) (.int j u)) Q E s) :
  OpR X f (rI C fun i j => .int (g i j)) := by
 intro pins s σ H x y v u Q I rx ry h
 obtain ⟨i, j, rfl, rfl, hc, q⟩ := h
 obtain ⟨t, rfl⟩ := rx
 obtain ⟨t', rfl⟩ := ry
 exact rule i j t t' s _ _ hc ⟨.int (g i j), H, I.tok _, ⟨_, rfl⟩, q⟩
theorem opI0 {f : Value → Value → Sem Value} {g : Int → Int → Int}
  (rule : ∀ (i j : Int) (t u : Tok) (s : Shared) (Q : Value → Shared → Prop) (E : Value → Shared → Prop), Q (.int (g i j) s.toks) { s with toks := s.toks + 1 } → wpAny (model X.prog X.w) X.A (f (.int i t) (.int j u)) Q E s) :
  OpR X f (rI0 fun i j => .int (g i j)) := by
 intro pins s σ H x y v u Q I rx ry h
 obtain ⟨i, j, rfl, rfl, q⟩ := h
 obtain ⟨t, rfl⟩ := rx
 obtain ⟨t', rfl⟩ := ry
 exact rule i j t t' s _ _ ⟨.int (g i j), H, I.tok _, ⟨_, rfl⟩, q⟩
theorem R4 {f : Value → Value → Sem Value} {g : Int → Int → Bool}
  (rule : ∀ (i j : Int) (t u : Tok) (s : Shared) (Q : Value → Shared → Prop) (E : Value → Shared → Prop), Q (.bool (g i j)) s → wpAny (model X.prog X.w) X.A (f (.int i t) (.int j u)) Q E s) :
  OpR X f (rI0 fun i j => .bl (g i j)) := by
 intro pins s σ H x y v u Q I rx ry h
 obtain ⟨i, j, rfl, rfl, q⟩ := h
 obtain ⟨t, rfl⟩ := rx
 obtain ⟨t', rfl⟩ := ry
 exact rule i j t t' s _ _ ⟨.bl (g i j), H, I, rfl, q⟩
noncomputable def QB (i j : Int) : Prop := 0 < j ∧ j < 1073741824
noncomputable def Pz (i j : Int) : Prop := 0 ≤ j ∧ j ≤ 1000000 ∧ i.natAbs < 2 ^ 64
noncomputable def QU (i j : Int) : Prop := (-(2 ^ 64) < i ∧ i < 2 ^ 64) ∨ (-(2 ^ 64) < j ∧ j < 2 ^ 64)
theorem BA : OpR X (binaryOp .Add) (rI0 fun i j => .int (i + j)) := opI0 fun _ _ _ _ _ _ _ q => add_int q
theorem Bt : OpR X (binaryOp .Sub) (rI0 fun i j => .int (i - j)) := opI0 fun _ _ _ _ _ _ _ q => sub_int q
theorem Ek : OpR X (binaryOp .Mod) (rI (fun _ j => 0 < j) fun i j => .int (i % j)) := opI fun i j _ _ _ _ _ hc q => by
 have h1 : (0 : Int) < j := hc
 exact mod_int' (by lia) (by rw [Int.fmod_eq_emod_of_nonneg i (by lia)]; exact q)
theorem R8 : OpR X (binaryOp .Mod) (rI (fun _ j => j ≠ 0) fun i j => .int (i.fmod j)) := opI fun _ _ _ _ _ _ _ hc q => mod_int' hc q
theorem unI {f : Value → Sem Value} {g : Int → Int}
  (rule : ∀ (i : Int) (t : Tok) (s : Shared) (Q : Value → Shared → Prop) (E : Value → Shared → Prop), Q (.int (g i) s.toks) { s with toks := s.toks + 1 } → wpAny (model X.prog X.w) X.A (f (.int i t)) Q E s) :
  UnR X f (rU fun i => .int (g i)) := by
 intro pins s σ H x v Q I rx h
 obtain ⟨i, rfl, q⟩ := h
 obtain ⟨t, rfl⟩ := rx
 exact rule i t s _ _ ⟨.int (g i), H, I.tok _, ⟨_, rfl⟩, q⟩
theorem FC : UnR X (unaryOp .USub) (rU fun i => .int (-i)) := unI fun _ _ _ _ _ q => neg_int q
end
noncomputable def knd : V → Nat
 | .non => 0 | .int _ => 1 | .bl _ => 2 | .str _ => 3 | .byt _ => 4 | _ => 5
noncomputable def Gi (x y : V) : Bool := (knd x == knd y && Nat.blt (knd x) 5) || (Nat.blt (knd x) 4 && Nat.blt (knd y) 4 && knd x * knd y != 2)
noncomputable def rEq : R2 := fun x y H Q => Gi x y = true ∧ Q (.bl (decide (x = y))) H
noncomputable def rNe : R2 := fun x y H Q => Gi x y = true ∧ Q (.bl (!decide (x = y))) H
theorem PF {i j : Int} : decide (V.int i = V.int j) = (i == j) := by
 rw [qD]
 simp
theorem QX {i j : Bool} : decide (V.bl i = V.bl j) = (i == j) := by
 rw [qD]
 simp
theorem PM {i j : Str} : decide (V.str i = V.str j) = (i == j) := by
 rw [qD]
 simp
theorem O5 {i j : Array UInt8} : decide (V.byt i = V.byt j) = (i.toList == j.toList) := by
 rw [qD]
 cases i
 cases j
 simp
section
variable {X : Cx} {a b c : Expr} {ta tb tc : TE} {pos : Pos}
theorem Ap {pins : List (Addr × Obj)} {σ : St} {H : Hp} {s : Shared} {Q : VK} {k k' : Bool} (I : Inv X pins σ H s) (q : Q (.bl k) H) (e : k = k') : EP X pins σ Q (.bool k') s := by
 subst e
 exact ⟨.bl k, H, I, rfl, q⟩
theorem Az : OpR X (compareOp .Eq) rEq := by
 intro pins s σ H x y v u Q I rx ry h
 obtain ⟨hs, q⟩ := h
 cases x with
 | non =>
  cases rx
  cases y with
  | non => cases ry; exact PySem.EqNone.eq_none_none (Ap I q (by simp))
  | bl j => cases ry; exact PySem.EqNone.eq_none_bool (Ap I q (by simp))
  | int j => obtain ⟨t', rfl⟩ := ry; exact PySem.EqNone.eq_none_int (Ap I q (by simp))
  | str j => obtain ⟨t', rfl⟩ := ry; exact PySem.EqNone.eq_none_str (Ap I q (by simp))
  | _ => exact absurd (show false = true from hs) zN
 | bl i =>
  cases rx
  cases y with
  | non => cases ry; exact PySem.EqNone.eq_bool_none (Ap I q (by simp))
  | bl j => cases ry; exact eq_bool (Ap I q QX)
  | str j => obtain ⟨t', rfl⟩ := ry; exact PySem.EqMixed.eq_bool_str (Ap I q (by simp))
  | _ => exact absurd (show false = true from hs) zN
 | int i =>
  obtain ⟨t, rfl⟩ := rx
  cases y with
  | non => cases ry; exact PySem.EqNone.eq_int_none (Ap I q (by simp))
  | int j => obtain ⟨t', rfl⟩ := ry; exact eq_int (Ap I q PF)
  | str j => obtain ⟨t', rfl⟩ := ry; exact PySem.EqMixed.eq_int_str (Ap I q (by simp))
  | _ => exact absurd (show false = true from hs) zN
 | str i =>
  obtain ⟨t, rfl⟩ := rx
  cases y with
  | non => cases ry; exact PySem.EqNone.eq_str_none (Ap I q (by simp))
  | bl j => cases ry; exact PySem.EqMixed.eq_str_bool (Ap I q (by simp))
  | int j => obtain ⟨t', rfl⟩ := ry; exact PySem.EqMixed.eq_str_int (Ap I q (by simp))
  | str j => obtain ⟨t', rfl⟩ := ry; exact eq_str (Ap I q PM)
  | _ => exact absurd (show false = true from hs) zN
 | byt i =>
  obtain ⟨t, rfl⟩ := rx
  cases y with
  | byt j => obtain ⟨t', rfl⟩ := ry; exact W.eq_bytes (Ap I q O5)
  | _ => exact absurd (show false = true from hs) zN
 | _ => cases y <;> exact absurd (show false = true from hs) zN
theorem Qj : OpR X (compareOp .NotEq) rNe := by
 intro pins s σ H x y v u Q I rx ry h
 obtain ⟨hs, q⟩ := h
 cases x with
 | non =>
  cases rx
  cases y with
  | non => cases ry; exact PySem.EqNone.ne_none_none (Ap I q (by simp))
  | bl j => cases ry; exact PySem.EqNone.ne_none_bool (Ap I q (by simp))
  | int j => obtain ⟨t', rfl⟩ := ry; exact PySem.EqNone.ne_none_int (Ap I q (by simp))
  | str j => obtain ⟨t', rfl⟩ := ry; exact PySem.EqNone.ne_none_str (Ap I q (by simp))
  | _ => exact absurd (show false = true from hs) zN
 | bl i =>
  cases rx
  cases y with
  | non => cases ry; exact PySem.EqNone.ne_bool_none (Ap I q (by simp))
  | bl j => cases ry; exact ne_bool (Ap I q (congrArg not QX))
  | str j => obtain ⟨t', rfl⟩ := ry; exact PySem.EqMixed.ne_bool_str (Ap I q (by simp))
  | _ => exact absurd (show false = true from hs) zN
 | int i =>
  obtain ⟨t, rfl⟩ := rx
  cases y with
  | non => cases ry; exact PySem.EqNone.ne_int_none (Ap I q (by simp))
  | int j => obtain ⟨t', rfl⟩ := ry; exact ne_int (Ap I q (congrArg not PF))
  | str j => obtain ⟨t', rfl⟩ := ry; exact PySem.EqMixed.ne_int_str (Ap I q (by simp))
  | _ => exact absurd (show false = true from hs) zN
 | str i =>
  obtain ⟨t, rfl⟩ := rx
  cases y with
  | non => cases ry; exact PySem.EqNone.ne_str_none (Ap I q (by simp))
  | bl j => cases ry; exact PySem.EqMixed.ne_str_bool (Ap I q (by simp))
  | int j => obtain ⟨t', rfl⟩ := ry; exact PySem.EqMixed.ne_str_int (Ap I q (by simp))
  | str j => obtain ⟨t', rfl⟩ := ry; exact ne_str (Ap I q (congrArg not PM))
  | _ => exact absurd (show false = true from hs) zN
 | byt i =>
  obtain ⟨t, rfl⟩ := rx
  cases y with
  | byt j => obtain ⟨t', rfl⟩ := ry; exact W.ne_bytes (Ap I q (congrArg not O5))
  | _ => exact absurd (show false = true from hs) zN
 | _ => cases y <;> exact absurd (show false = true from hs) zN
theorem Bc : OpR X (compareOp .Lt) (rI0 fun i j => .bl (decide (i < j))) := R4 fun _ _ _ _ _ _ _ q => lt_int q
theorem S7 : OpR X (compareOp .LtE) (rI0 fun i j => .bl (decide (i ≤ j))) := R4 fun _ _ _ _ _ _ _ q => le_int q
theorem Ec : OpR X (compareOp .Gt) (rI0 fun i j => .bl (decide (j < i))) := R4 fun _ _ _ _ _ _ _ q => gt_int q
theorem S0 : OpR X (compareOp .GtE) (rI0 fun i j => .bl (decide (j ≤ i))) := R4 fun _ _ _ _ _ _ _ q => ge_int q
theorem QT : OpR X (compareOp .In) (fun x y H Q => ∃ i j, x = .str i ∧ y = .str j ∧ Q (.bl (!(Builtin.Str.occurrences j i 0 j.length 1).isEmpty)) H) := by
 intro pins s σ H x y v u Q I rx ry h
 obtain ⟨i, j, rfl, rfl, q⟩ := h
 obtain ⟨t, rfl⟩ := rx
 obtain ⟨t', rfl⟩ := ry
 exact in_str (Ap I q rfl)
theorem NS : OpR X (compareOp .Is) (fun x y H Q => y = .non ∧ Q (.bl (decide (x = .non))) H) := by
 intro pins s σ H x y v u Q I rx ry h
 obtain ⟨rfl, q⟩ := h
 cases ry
 refine is_none_gen (Ap I q ?_)
 cases x <;> first
  | (cases rx; rfl)
  | (obtain ⟨t, rfl⟩ := rx; rfl)
theorem RC (b : Expr) {op : CmpOp} (h : op ≠ .In := by decide) (h2 : op ≠ .NotIn := by decide) : behindInMarks op b = false := by
 have e1 : (op == CmpOp.In) = false := by cases op <;> first | rfl | exact absurd rfl h
 have e2 : (op == CmpOp.NotIn) = false := by cases op <;> first | rfl | exact absurd rfl h2
 cases b <;> simp [behindInMarks, e1, e2]
theorem NR {op : CmpOp} {r : R2} (ho : OpR X (compareOp op) r) (ha : PE X a ta) (hb : PE X b tb) (hm : behindInMarks op b = false) : PE X (.Compare a [op] [b] pos) (tOp r ta tb) := by
 intro pins s σ H Q I h
 exact wpAny_Compare1 (UX ha hb I h fun v u s2 x y H2 I2 rx ry q => ho pins s2 σ H2 x y v u Q I2 rx ry q) hm
noncomputable def Fl (t : TE) : TT := fun σ H Q => t σ H fun x H' => ∃ k, x = .bl k ∧ Q k H'
theorem SZ {op : CmpOp} {r : R2} (ho : OpR X (compareOp op) r) (ha : PE X a ta) (hb : PE X b tb) (hm : behindInMarks op b = false) : PT X (.Compare a [op] [b] pos) (Fl (tOp r ta tb)) := by
 intro pins s σ H Q I h
 refine wpAny_isTrue_Compare1 (thn (ha pins s σ H _ I h) fun v s1 ⟨x, H1, I1, r1, q1⟩ => thn (hb pins s1 σ H1 _ I1 q1) fun u s2 ⟨y, H2, I2, r2, q2⟩ =>
  thn (ho pins s2 σ H2 x y v u _ I2 r1 r2 q2) fun c s3 ⟨z, H3, I3, r3, k, e, q3⟩ => ?_) hm
 subst e
 cases r3
 exact wpAny_truthy_bool ⟨H3, I3, q3⟩
theorem Ku : (sizeLine : Nat) < 2 ^ 63 := by rw [sizeLine_eq]; decide
theorem vals1 {x : V} {us : List Value} (r : Ae [x] us) : ∃ u, us = [u] ∧ RelV x u := by
 cases r with
 | cons r1 r2 => cases r2; exact ⟨_, rfl, r1⟩
theorem vals2 {x y : V} {us : List Value} (r : Ae [x, y] us) : ∃ u w', us = [u, w'] ∧ RelV x u ∧ RelV y w' := by
 cases r with
 | cons r1 r2 =>
  cases r2 with
  | cons r3 r4 => cases r4; exact ⟨_, _, rfl, r1, r3⟩
theorem Ni : B2 X (.builtin "abs") (fun xs H Q => ∃ i, xs = [.int i] ∧ Q (.int (if i < 0 then -i else i)) H) := by
 intro pins s σ H xs us Q I r h
 obtain ⟨i, rfl, q⟩ := h
 obtain ⟨u, rfl, t, rfl⟩ := vals1 r
 exact call_abs_int fun u tk => ⟨.int (if i < 0 then -i else i), H, I.tok _, ⟨_, rfl⟩, q⟩
theorem QW : B2 X (.type "int") (fun xs H Q => (∃ i, xs = [.int i] ∧ Q (.int i) H) ∨ ∃ k, xs = [.bl k] ∧ Q (.int (if k then 1 else 0)) H) := by
 intro pins s σ H xs us Q I r h
 rcases h with ⟨i, rfl, q⟩ | ⟨k, rfl, q⟩
 ·obtain ⟨u, rfl, t, rfl⟩ := vals1 r
  exact call_int_int ⟨.int i, H, I, ⟨_, rfl⟩, q⟩
 ·obtain ⟨u, rfl, r1⟩ := vals1 r
  cases r1
  exact call_int_bool ⟨.int (if k then 1 else 0), H, I.tok _, ⟨_, rfl⟩, q⟩
end
structure Oi (h : Heap) (x dx C : Addr) (mA : Str → Option Value) : Prop where
 obj : h.get? x = some (W.instObj C dx)
 ns : h.Ns1 dx mA
 ne : dx ≠ x
theorem Po {h : Heap} {dx : Addr} {mA : Str → Option Value} (n : h.Ns1 dx mA) : ∃ od, h.get? dx = some od ∧ ∀ name, W.lookIn name od = some (mA name) := by
 obtain ⟨o, es, ep, ho, hd, hk, _, hm⟩ := n
 refine ⟨o, ho, fun name => ?_⟩
 have e := hm name
 unfold nsFind findBy at e
 rw [← Array.find?_toList] at e
 unfold W.lookIn
 rw [hd]
 dsimp only
 split
 ·rename_i y q
  rw [q] at e
  exact congrArg some e
 ·rename_i q
  rw [q] at e
  have a : es.toList.any (·.refKey) = false := by
   rw [List.any_eq_false]
   intro y hy
   obtain ⟨z, t, hkey⟩ := hk y (Array.mem_toList_iff.mp hy)
   simp [DictEntry.refKey, hkey]
  have a' : ¬ es.toList.any (·.refKey) = true := by rw [a]; exact zN
  rw [if_neg a']
  exact congrArg some e
theorem Oi.look {h : Heap} {x dx C : Addr} {mA : Str → Option Value} (I : Oi h x dx C mA) : ∃ od, W.InstAt h x (W.instObj C dx) C (some od) ∧ ∀ name, W.lookIn name od = some (mA name) :=
 let ⟨od, ho, hl⟩ := Po I.ns
 ⟨od, ⟨I.obj, rfl, rfl, ho⟩, hl⟩
section
variable {prog : Program} {w : World} {A : Around} {E : Value → Shared → Prop} {s : Shared} {K : W.Frag} {x dx C f : Addr} {mA : Str → Option Value} {name : Str} {v : Value}
theorem Sj {expr : Bool} {Q : Value → Shared → Prop} (X : K.In s.heap) (I : Oi s.heap x dx C mA) (hg : W.plainGet K C name = true) (hh : W.hasDictIn K C = true)
  (ha : W.findIn K (.ref C) name = some none) (hv : mA name = some v) (hv' : W.handedIn v = true) (h : Q v { s with toks := s.toks + 1 }) :
  wpAny (model prog w) A (getAttr (.ref x) name expr) Q E s := by
 obtain ⟨od, J, hl⟩ := I.look
 exact W.get_value X J (W.plainGet_of hg).1 (W.findObj_own hh ha rfl (by rw [hl, hv])) hv' h
theorem Qp {pl : Sem Bool} {Q : Value × List Value → Shared → Prop} (X : K.In s.heap) (I : Oi s.heap x dx C mA) (hg : W.plainGet K C name = true)
  (hf : W.findIn K (.ref C) name = some (some (.ref f))) (ht : W.isFn K (.ref f) = true) (hv : mA name = none) (h : Q (.ref f, [.ref x]) s) :
  wpAny (model prog w) A (getMethod (.ref x) name pl) Q E s := by
 obtain ⟨od, J, hl⟩ := I.look
 exact W.method_fn X J (W.plainGet_of hg).1 (W.plainGet_of hg).2 hf (beq_iff_eq.mp ht) (by show (W.lookIn name od).map (·.isSome) = some false; rw [hl, hv]; rfl) h
theorem Sf {ns : List Str} {Q : Unit → Shared → Prop} (X : K.In s.heap) (I : Oi s.heap x dx C mA)
  (hs : W.findIn K (.ref C) "__setattr__" = some (some (.builtin "object.__setattr__"))) (hp : W.plainOver K C = true) (ht : W.takerIn K C name = some none) (hh : W.hasDictIn K C = true)
  (hw : PySem.Within mA ns) (hsz : ns.length ≤ sizeLine)
  (h : ∀ h', Oi h' x dx C (fun y => if y = name then some v else mA y) → Heap.SameBut dx s.heap h' → Q () { s with heap := h', toks := s.toks + 2 }) :
  wpAny (model prog w) A (setAttr (.ref x) name v) Q E s := by
 obtain ⟨od, J, hl⟩ := I.look
 refine W.set_plain X J hs (W.osa_open (s := { s with toks := s.toks + 1 }) (r := none) X J hp ht fun b => ?_)
 obtain ⟨cd, hc, hd'⟩ := W.any_some hh
 have hx : s.heap.get? x = some ⟨.ref C, some dx, .plain, #[]⟩ := I.obj
 refine wpAny_bind (wpAny_pure (wpAny_bind (wpAny_bind (wpAny_loadPart hx (wpAny_bind (W.Looks.here (s := { s with toks := s.toks + 1 }) (W.looks_clsIn X hc) ?_))))))
 rw [hd']
 refine wpAny_pure (a := some dx) (wpAny_bind (wpAny_pure (wpAny_bind ?_)))
 refine wpAny_nsSet1 (s := { s with toks := s.toks + 1 }) I.ns fun h' hn2 hs2 => ?_
 obtain ⟨oD, esD, epD, hoD, hdD, hcD⟩ := hn2.count (PySem.Within.cons name v hw)
 refine wpAny_bind (wpAny_lookBehind hoD (by rw [hdD]; exact pastItsLine_dict (zL hcD (by rw [zU]; lia))) ?_)
 exact wpAny_pure (h _ ⟨(hs2.2 _ (Ne.symm I.ne)).trans I.obj, hn2, I.ne⟩ hs2)
theorem RF {R : Result → Shared → Prop} {vs : List Value} {kw : List (Str × Value)} (X : K.In s.heap) (hm : W.makesIn K C = true)
  (hi : W.findIn K (.ref C) "__init__" = some (some (.ref f))) (hf : W.typeIn K (.ref f) = some (.type "function"))
  (h : codeAny (model prog w) (A.under (.builtin "type.__call__" ⟨.ref C :: vs, kw⟩)) (.call (.ref f) ⟨.ref (s.heap.objs.size + 1) :: vs, kw⟩) (W.InitBack (s.heap.objs.size + 1) R)
   { s with heap := (s.heap.push W.emptyDict).push (W.instObj C s.heap.objs.size) }) :
  codeAny (model prog w) A (.call (.ref C) ⟨vs, kw⟩) R s := by
 obtain ⟨hh, g, d, t, os⟩ := s
 exact W.make_core (W.makes_of X hm) (W.looks_findIn X hi) (fun self => W.bind_fn X self hf) (.inl rfl) h
end
noncomputable def Gf (f : Str) (v : V) : List (Str × V) → List (Str × V)
 | [] => [(f, v)]
 | (g, x) :: r => if g = f then (g, v) :: r else (g, x) :: Gf f v r
theorem J9 (f g : Str) (v : V) : ∀ fs : List (Str × V), (Gf f v fs).lookup g = if g = f then some v else fs.lookup g
 | [] => by
  show List.lookup g [(f, v)] = _
  by_cases h : g = f
  ·have hb : (g == f) = true := beq_iff_eq.mpr h
   simp only [List.lookup, hb, if_pos h]
  ·have hb : (g == f) = false := beq_eq_false_iff_ne.mpr h
   simp only [List.lookup, hb, if_neg h]
 | (k, x) :: r => by
  have ih := J9 f g v r
  rw [show Gf f v ((k, x) :: r) = (if k = f then (k, v) :: r else (k, x) :: Gf f v r) from rfl]
  by_cases hk : k = f
  ·rw [if_pos hk]
   by_cases h : g = k
   ·have hb : (g == k) = true := beq_iff_eq.mpr h
    simp only [List.lookup, hb, if_pos (h.trans hk)]
   ·have hb : (g == k) = false := beq_eq_false_iff_ne.mpr h
    simp only [List.lookup, hb, if_neg (fun e : g = f => h (e.trans hk.symm))]
  ·rw [if_neg hk]
   by_cases h : g = k
   ·have hb : (g == k) = true := beq_iff_eq.mpr h
    simp only [List.lookup, hb, if_neg (fun e : g = f => hk (h.symm.trans e))]
   ·have hb : (g == k) = false := beq_eq_false_iff_ne.mpr h
    simp only [List.lookup, hb]
    exact ih
theorem Jo (f : Str) (v : V) : ∀ fs : List (Str × V), f ∈ (Gf f v fs).map (·.1) ∧ ∀ g, g ∈ fs.map (·.1) → g ∈ (Gf f v fs).map (·.1)
 | [] => ⟨by simp [Gf], fun g h => by simp at h⟩
 | (k, x) :: r => by
  obtain ⟨i1, i2⟩ := Jo f v r
  rw [show Gf f v ((k, x) :: r) = (if k = f then (k, v) :: r else (k, x) :: Gf f v r) from rfl]
  by_cases hk : k = f
  ·rw [if_pos hk]
   subst hk
   exact ⟨by simp, fun g h => by simpa using h⟩
  ·rw [if_neg hk]
   refine ⟨?_, fun g h => ?_⟩
   ·rw [zb]
    exact zC _ i1
   ·rw [zb] at h ⊢
    rcases zH.mp h with e | e
    ·exact zH.mpr (.inl e)
    ·exact zC _ (i2 g e)
theorem J1 (f : Str) (v : V) : ∀ fs : List (Str × V), (Gf f v fs).length ≤ fs.length + 1
 | [] => by simp [Gf]
 | (k, x) :: r => by
  have ih := J1 f v r
  rw [show Gf f v ((k, x) :: r) = (if k = f then (k, v) :: r else (k, x) :: Gf f v r) from rfl]
  by_cases hk : k = f
  ·rw [if_pos hk, zU, zU]; lia
  ·rw [if_neg hk, zU, zU]; lia
theorem MG.some_of {v : V} {o : Option Value} (r : MG (some v) o) : ∃ u, o = some u ∧ RelV v u := by
 cases o with
 | none => exact (show False from r).elim
 | some u => exact ⟨u, rfl, r⟩
theorem MG.none_of {o : Option Value} (r : MG none o) : o = none := by
 cases o with
 | none => rfl
 | some u => exact (show False from r).elim
theorem QF {v : V} {u : Value} (r : RelV v u) : W.handedIn u = true := by
 cases v with
 | non => cases (show u = Value.none from r); rfl
 | bl b => cases (show u = Value.bool b from r); rfl
 | int i => obtain ⟨t, e⟩ := (show ∃ t, u = Value.int i t from r); cases e; rfl
 | str x => obtain ⟨t, e⟩ := (show ∃ t, u = Value.str x t from r); cases e; rfl
 | byt b => obtain ⟨t, e⟩ := (show ∃ t, u = Value.bytes b t from r); cases e; rfl
 | flt b => obtain ⟨t, e⟩ := (show ∃ t, u = Value.float b t from r); cases e; rfl
 | ref a => cases (show u = Value.ref a from r); rfl
 | ty n => cases (show u = Value.type n from r); rfl
section
variable {P : Program} {w : World} {H H' : Hp} {h h' : Heap} {a C dx : Addr} {fs fs' : List (Str × V)}
theorem NT (hok : HOk P w H h) (e : H a = some (.ins C dx fs)) : ∃ mA, Oi h a dx C mA ∧ (∀ f, MG (fs.lookup f) (mA f)) ∧ PySem.Within mA (fs.map (·.1)) ∧ fs.length ≤ 1000 ∧ H dx = some (.own a) := by
 obtain ⟨d, z, ne, ob, mA, n, r, q⟩ := (show B4 P w H h a (.ins C dx fs) from hok a _ e)
 exact ⟨mA, ⟨ob, n, ne⟩, r, q, z, d⟩
end
structure Cls (K : W.Frag) (C : Addr) : Prop where
 pg : W.plainGet K C Str.empty = true
 hd : W.hasDictIn K C = true
 po : W.plainOver K C = true
 sa : W.findIn K (.ref C) "__setattr__" = some (some (.builtin "object.__setattr__"))
theorem Cls.get {K : W.Frag} {C : Addr} (c : Cls K C) (f : Str) : W.plainGet K C f = true := c.pg
noncomputable def Fm (K : W.Frag) (C : Addr) (f : Str) : Prop := W.findIn K (.ref C) f = some none
theorem Fm.taker {K : W.Frag} {C : Addr} {f : Str} (n : Fm K C f) : W.takerIn K C f = some none := by
 unfold W.takerIn
 rw [show W.findIn K (.ref C) f = some none from n]
 rfl
structure Pn (K : W.Frag) (C : Addr) (m : Str) (f : Addr) : Prop where
 at_ : W.findIn K (.ref C) m = some (some (.ref f))
 fn : W.isFn K (.ref f) = true
 kp : W.keepIn K (.ref f) = true
section
variable {X : Cx} {pins : List (Addr × Obj)} {σ : St} {H : Hp} {s : Shared} {a C dx : Addr} {fs : List (Str × V)} {f : Str} {v : V} {A : Around} {E : Value → Shared → Prop}
theorem Oc {b : Bool} {Q : Value → Shared → Prop} (I : Inv X pins σ H s) (e : H a = some (.ins C dx fs)) (c : Cls X.K C) (n : Fm X.K C f) (l : fs.lookup f = some v)
  (h : ∀ u s', Inv X pins σ H s' → RelV v u → Q u s') : wpAny (model X.prog X.w) A (getAttr (.ref a) f b) Q E s := by
 obtain ⟨mA, O, r, _, _, _⟩ := NT I.hok e
 obtain ⟨u, hu, ru⟩ := MG.some_of (v := v) (o := mA f) (by rw [← l]; exact r f)
 exact Sj I.kIn O (c.get f) c.hd n hu (QF ru) (h u _ (I.tok _) ru)
theorem He {m : Str} {g : Addr} {pl : Sem Bool} {Q : Value × List Value → Shared → Prop} (I : Inv X pins σ H s) (e : H a = some (.ins C dx fs)) (c : Cls X.K C) (k : Pn X.K C m g) (l : fs.lookup m = none)
  (h : Q (.ref g, [.ref a]) s) : wpAny (model X.prog X.w) A (getMethod (.ref a) m pl) Q E s := by
 obtain ⟨mA, O, r, _, _, _⟩ := NT I.hok e
 have hn : mA m = none := MG.none_of (by rw [← l]; exact r m)
 exact Qp I.kIn O (c.get m) k.at_ k.fn hn h
theorem Ob {y : V} {u : Value} {Q : Unit → Shared → Prop} (I : Inv X pins σ H s) (e : H a = some (.ins C dx fs)) (c : Cls X.K C) (n : Fm X.K C f) (hl : fs.length < 1000) (ry : RelV y u)
  (h : ∀ s', Inv X pins σ (upd H a (.ins C dx (Gf f y fs))) s' → Q () s') : wpAny (model X.prog X.w) A (setAttr (.ref a) f u) Q E s := by
 obtain ⟨mA, O, r, wi, _, ho⟩ := NT I.hok e
 have hz : (fs.map (·.1)).length ≤ sizeLine := by rw [z6, sizeLine_eq]; lia
 refine Sf I.kIn O c.sa c.po n.taker c.hd wi hz fun h' O' sb => h _ ?_
 have hd : ∃ o, h'.get? dx = some o := let ⟨o, _, _, e', _⟩ := O'.ns; ⟨o, e'⟩
 refine I.write (x := a) (e := dx) (by rw [e]; exact True.intro) (.inr ho) (fun b q hb z => (sb.2 b hb).trans z) hd ?_
 refine ⟨by rw [AJ O.ne]; exact ho, ?_, O.ne, O'.obj, _, O'.ns, fun g => ?_, fun g hg => ?_⟩
 ·have := J1 f y fs; lia
 ·show MG ((Gf f y fs).lookup g) (if g = f then some u else mA g)
  rw [J9]
  by_cases q : g = f
  ·rw [if_pos q, if_pos q]; exact ry
  ·rw [if_neg q, if_neg q]; exact r g
 ·by_cases q : g = f
  ·rw [q]; exact (Jo f y fs).1
  ·refine (Jo f y fs).2 g (wi g fun z => hg ?_)
   show (if g = f then some u else mA g) = none
   rw [if_neg q]; exact z
theorem Inv.made (I : Inv X pins σ H s) : Inv X pins σ (upd (upd H s.heap.objs.size (.own (s.heap.objs.size + 1))) (s.heap.objs.size + 1) (.ins C s.heap.objs.size []))
  { s with heap := (s.heap.push W.emptyDict).push (W.instObj C s.heap.objs.size) } := by
 have e1 : (s.heap.push W.emptyDict).get? s.heap.objs.size = some W.emptyDict := zM s.heap rfl
 have e2 : ((s.heap.push W.emptyDict).push (W.instObj C s.heap.objs.size)).get? (s.heap.objs.size + 1) = some (W.instObj C s.heap.objs.size) := by
  have := zM (s.heap.push W.emptyDict) (o := W.instObj C s.heap.objs.size) rfl
  rwa [Heap.size_push] at this
 have e3 : (s.heap.push W.emptyDict).Ns s.heap.objs.size (fun _ => none) := ⟨W.emptyDict, #[], _, e1, rfl, (fun e he => absurd he (by simp)), fun _ => rfl⟩
 have I1 := I.laid (a := s.heap.objs.size) (o := .own (s.heap.objs.size + 1)) (h' := s.heap.push W.emptyDict) (t' := s.toks) (fun b u q => z7 _ q) (zB _) ⟨_, e1⟩
 refine I1.laid (a := s.heap.objs.size + 1) (o := .ins C s.heap.objs.size []) (t' := s.toks) (fun b u q => z7 _ q) (Nat.le_of_eq (Heap.size_push _ _)) ?_
 have ne : s.heap.objs.size ≠ s.heap.objs.size + 1 := zP (Nat.lt_succ_self _)
 refine ⟨by rw [AJ ne, AQ], zc _, ne, e2, fun _ => none, (Heap.Ns1.of_empty e3).at fun o q => z7 _ q, fun _ => True.intro, fun y hy => absurd rfl hy⟩
theorem SE {prog : Program} {w : World} {env : Env} {e : Expr} {f : Str} {pos : Pos} {s : Shared} {Q : Value → Shared → Prop} (hb : attributeBase e f env (eval e env) = eval e env)
  (h : wpAny (model prog w) A (eval e env) (fun o s₁ => wpAny (model prog w) A (getAttr o f true) Q E s₁) E s) : wpAny (model prog w) A (eval (.Attribute e f pos) env) Q E s :=
 Attribute_any_ h (by rw [arm_eval_Attribute, hb])
end
noncomputable def L3 (K : W.Frag) (ta : TE) (f : Str) : TE := fun σ H Q => ta σ H fun x H1 => ∃ a C dx fs v, x = .ref a ∧ H1 a = some (.ins C dx fs) ∧ Cls K C ∧ Fm K C f ∧ fs.lookup f = some v ∧ Q v H1
noncomputable def Lv (K : W.Frag) (ta tv : TE) (f : Str) : TS := fun D σ H => tv σ H fun y H1 => ta σ H1 fun x H2 => ∃ a C dx fs, x = .ref a ∧ H2 a = some (.ins C dx fs) ∧ Cls K C ∧ Fm K C f ∧ fs.length < 1000 ∧
 D.nx σ (upd H2 a (.ins C dx (Gf f y fs)))
section
variable {X : Cx} {o e value : Expr} {f : Str} {pos pos' tpos : Pos} {ta tv : TE}
theorem Bf (he : PE X e ta) (hb : attributeBase e f X.env (eval e X.env) = eval e X.env) : PE X (.Attribute e f pos) (L3 X.K ta f) := by
 intro pins s σ H Q I h
 refine SE hb (thn (he pins s σ H _ I h) fun u s1 zq => ?_)
 obtain ⟨x, H1, I1, rx, a, C, dx, fs, v, ex, ea, c, n, l, q⟩ := zq
 subst ex
 obtain rfl : u = Value.ref a := rx
 exact Oc I1 ea c n l fun u' s2 I2 ru => ⟨v, H1, I2, ru, q⟩
theorem Kx (ha : PE X o ta) (hv : PE X value tv) (hs : swapsWith value (some (.Attribute o f pos')) pos.line X.env = pure false) : PS X (.Assign [.Attribute o f pos'] value pos) (Lv X.K ta tv f) := by
 intro pins s σ H D I h
 refine plainObj_wpAny_Assign_Attribute (thn (hv pins s σ H _ I h) fun u s1 ⟨y, H1, I1, ry, q⟩ => thn (ha pins s1 σ H1 _ I1 q) fun ov s2 ⟨x, H2, I2, rx, a, C, dx, fs, ex, ea, c, n, l, q2⟩ => ?_) hs
 subst ex
 obtain rfl : ov = Value.ref a := rx
 exact Ob I2 ea c n l ry fun s3 I3 => ⟨σ, _, I3, q2⟩
end
section
variable {X : Cx} {pins : List (Addr × Obj)} {σ : St} {H : Hp} {s : Shared} {A : Around} {E : Value → Shared → Prop} {Q : Value → Shared → Prop} {c : Value} {b : Bool}
inductive HY (K : W.Frag) (H : Hp) : V → Value → Prop where
 | non : HY K H .non (.type "NoneType")
 | bl (x : Bool) : HY K H (.bl x) (.type "bool")
 | int (i : Int) : HY K H (.int i) (.type "int")
 | str (x : Str) : HY K H (.str x) (.type "str")
 | flt (x : UInt64) : HY K H (.flt x) (.type "float")
 | lst {a : Addr} {xs : List V} (e : H a = some (.lst xs)) : HY K H (.ref a) (.type "list")
 | frz {a : Addr} {o : Obj} {xs : List V} (e : H a = some (.frz o (.lst xs))) : HY K H (.ref a) (.type "list")
 | tup {a : Addr} {xs : List V} (e : H a = some (.tup xs)) : HY K H (.ref a) (.type "tuple")
 | dK {a : Addr} {kvs : List (Key × V)} (e : H a = some (.dK kvs)) : HY K H (.ref a) (.type "dict")
 | dT {a : Addr} {kvs : List (List Key × V)} (e : H a = some (.dT kvs)) : HY K H (.ref a) (.type "dict")
 | ins {a C dx : Addr} {fs : List (Str × V)} (e : H a = some (.ins C dx fs)) (cl : Cls K C) (ha : W.findIn K (.ref C) "__class__" = some (some (.builtin "object.__class__")))
   (hn : W.specialIn K (.builtin "object.__class__") "__get__" = some (some (.builtin "getset_descriptor.__get__"))) (htk : W.takesIn K (.builtin "object.__class__") = some true)
   (hm : W.mroIn K C (.type "object") = some true) : HY K H (.ref a) (.ref C)
end
structure BY (k : Nat) (A : Around) : Prop where
 hd : A.handled = none
 dp : A.depth + 3 * k + 5 < recursionLimit
 un : A.units + 16 * k + 200 < cLine
theorem BY.mono {j k : Nat} {A : Around} (r : BY k A) (h : j ≤ k) : BY j A := ⟨r.hd, by have := r.dp; lia, by have := r.un; lia⟩
theorem BY.deeper {k : Nat} {A : Around} (r : BY (k + 1) A) (env : Env) : BY k (A.deeper env) :=
 ⟨r.hd, by have := r.dp; show A.depth + 1 + 3 * k + 5 < _; lia, by have := r.un; show A.units + 3 + 16 * k + 200 < _; lia⟩
theorem OO {A : Around} {C : Addr} {us : List Value} {kw : List (Str × Value)} : (A.under (.builtin "type.__call__" ⟨.ref C :: us, kw⟩)).depth = A.depth + 1 := by
 first | rfl | simp [Around.under, Code.weight, Code.isCreation, Code.isGuard, Code.isCaller, Code.frames, Code.isFrame, guardIds]
theorem Oz {A : Around} {C : Addr} {us : List Value} {kw : List (Str × Value)} : (A.under (.builtin "type.__call__" ⟨.ref C :: us, kw⟩)).units = A.units + 1 := by
 first | rfl | simp [Around.under, Code.cUnits, Code.frames, Code.isFrame]
theorem BY.make {k : Nat} {A : Around} (r : BY (k + 1) A) (C : Addr) (us : List Value) (kw : List (Str × Value)) : BY k (A.under (.builtin "type.__call__" ⟨.ref C :: us, kw⟩)) :=
 ⟨r.hd, by have := r.dp; rw [OO]; lia, by have := r.un; rw [Oz]; lia⟩
theorem BY.depth {k : Nat} {A : Around} (r : BY k A) : A.depth < recursionLimit := by have := r.dp; lia
theorem BY.units {k : Nat} {A : Around} (r : BY k A) : A.units + 64 < cLine := by have := r.un; lia
noncomputable def Hb : TA := fun _ H Q => Q [] H
noncomputable def DT (ta : TE) (tr : TA) : TA := fun σ H Q => ta σ H fun x H1 => tr σ H1 fun xs H2 => Q (x :: xs) H2
section
variable {X : Cx} {e : Expr} {es : List Expr} {te : TE} {t : TA} {pos : Pos}
theorem AB : PA X [] Hb := fun _ _ _ _ H Q I h => Calls.spliced_nil ⟨[], H, I, .nil, h⟩
theorem AA (ha : PE X e te) (hr : PA X es t) (hs : starEach (e :: es) X.env = (false, eval e X.env) :: starEach es X.env := by rfl) : PA X (e :: es) (DT te t) := by
 intro pos pins s σ H Q I h
 rw [hs]
 show wpAny _ _ (spliced ((false, eval e X.env) :: backTo pos (starEach es X.env))) _ _ s
 refine Calls.spliced_cons (thn (ha pins s σ H _ I h) fun u s1 zq => ?_)
 obtain ⟨x, H1, I1, r1, q1⟩ := zq
 exact thn (hr pos pins s1 σ H1 _ I1 q1) fun us s2 ⟨xs, H2, I2, r2, q2⟩ => ⟨x :: xs, H2, I2, .cons r1 r2, q2⟩
end
noncomputable abbrev Sp := List V → Hp → VK → XK → Prop
noncomputable abbrev CXT := List Env → Hp → Shared → XK → Value → Shared → Prop
structure NG (P : Program) (w : World) (K : W.Frag) (mg : Str → Option Value) (base : Heap) (A : Around) (outer : List Env) (s : Shared) (H : Hp) : Prop where
 frames : A.frames = some outer
 mod : Mod K mg base
 bs : ∀ b o, base.get? b = some o → s.heap.get? b = some o ∧ H b = none
 bsz : base.objs.size ≤ s.heap.objs.size
 funs : s.heap.FunFrames base outer
 frf : ∀ b ∈ frs outer, H b = none
 hok : HOk P w H s.heap
 bare : AllBare s.gens
noncomputable def CE (outer : List Env) (P : Program) (w : World) (H : Hp) (s : Shared) (Q : VK) (u : Value) (s' : Shared) : Prop :=
 ∃ v H', s'.os = s.os ∧ AllBare s'.gens ∧ Un (frs outer) [] H H' s.heap s'.heap ∧ HOk P w H' s'.heap ∧ RelV v u ∧ Q v H'
noncomputable def CR (CX : CXT) (outer : List Env) (P : Program) (w : World) (H : Hp) (s : Shared) (Q : VK) (E : XK) (r : Result) (s' : Shared) : Prop :=
 match r with
 | .ok (.ret u) => CE outer P w H s Q u s'
 | .ok _ => False
 | .error e => CX outer H s E e s'
structure Aj (P : Program) (w : World) (K : W.Frag) (mg : Str → Option Value) (base : Heap) (CX : CXT) (k : Nat) (f : Addr) (fd : FuncData) (ps : List Str) (sp : Sp) : Prop where
 len : ∀ vs H Q E, sp vs H Q E → vs.length = ps.length
 run : ∀ (A : Around) (outer : List Env) (s : Shared) (H : Hp) (args : Args) (us : List Value) (vs : List V) (Q : VK) (E : XK), BY k A → NG P w K mg base A outer s H → BindsTo s fd args (ps.zip us) → Ae vs us → sp vs H Q E →
  codeAny (model P w) A (.call (.ref f) args) (CR CX outer P w H s Q E) s
theorem NG.make {P : Program} {w : World} {K : W.Frag} {mg : Str → Option Value} {base : Heap} {A : Around} {outer : List Env} {s : Shared} {H : Hp} (e : NG P w K mg base A outer s H) (C : Addr) (us : List Value) (kw : List (Str × Value)) :
  NG P w K mg base (A.under (.builtin "type.__call__" ⟨.ref C :: us, kw⟩)) outer s H := ⟨by first | exact e.frames | (simpa [Around.under, Code.envs, Code.isFrame, pushEnvs] using e.frames), e.mod, e.bs, e.bsz, e.funs, e.frf, e.hok, e.bare⟩
section
variable {X : Cx} {pins : List (Addr × Obj)} {σ : St} {H : Hp} {s s' : Shared}
theorem Inv.env0 (I : Inv X pins σ H s) : NG X.prog X.w X.K X.mg X.base X.A X.stack s H :=
 ⟨I.ok.frames, I.ok.mod, I.bs, zL I.ok.bsz I.sz, I.stack, I.stkFree, I.hok, I.bare⟩
theorem Inv.after {Q : VK} {u : Value} (I : Inv X pins σ H s) (h : CE X.stack X.prog X.w H s Q u s') : EP X pins σ Q u s' := by
 obtain ⟨v, H', os, bare, un, hok, r, q⟩ := h
 obtain ⟨hh, g, d, t, os'⟩ := s'
 obtain rfl : os' = s.os := os
 exact ⟨v, H', I.call (h' := hh) (g' := g) (d' := d) (t' := t) (ch := []) un hok bare (fun b z => absurd z (by simp)), r, q⟩
end
noncomputable def Dg (sp : Sp) (dvs : List V) (E : XK) (t : TA) : TE := fun σ H Q => t σ H fun vs H1 => sp (vs ++ dvs) H1 Q E
noncomputable def GG (C : Addr) (m : Str) (sp : Sp) (dvs : List V) (E : XK) (ta : TE) (t : TA) : TE := fun σ H Q => ta σ H fun x H1 => ∃ a dx fs, x = .ref a ∧ H1 a = some (.ins C dx fs) ∧ fs.lookup m = none ∧
 t σ H1 fun vs H2 => sp (x :: (vs ++ dvs)) H2 Q E
noncomputable def Gv (C : Addr) (sp : Sp) (dvs : List V) (E : XK) (t : TA) : TE := fun σ H Q => t σ H fun vs H1 => ∀ x dx, H1 x = none → H1 dx = none → dx ≠ x →
 sp (.ref x :: (vs ++ dvs)) (upd (upd H1 dx (.own x)) x (.ins C dx [])) (fun v H2 => v = .non ∧ Q (.ref x) H2) E
noncomputable def Binds (K : W.Frag) (fd : FuncData) (ps : List Str) (ds : List Value) : Prop :=
 ∀ (s : Shared) (us : List Value), K.In s.heap → (us ++ ds).length = ps.length → BindsTo s fd ⟨us, []⟩ (ps.zip (us ++ ds))
theorem Binds.all {K : W.Frag} {fd : FuncData} {ps : List Str} (h : ∀ us : List Value, us.length = ps.length → bindArgs fd ⟨us, []⟩ = pure (ps.zip us)) : Binds K fd ps [] := fun s us _ hl => by
 rw [List.append_nil] at hl ⊢
 exact .of_eq (h us hl)
noncomputable def Cp (CX : CXT) (X : Cx) (E : XK) : Prop := ∀ (pins : List (Addr × Obj)) (σ : St) (H : Hp) (s : Shared) (e : Value) (s' : Shared), Inv X pins σ H s → CX X.stack H s E e s' → X.xe e s'
section
variable {X : Cx} {CX : CXT} {k : Nat} {f C : Addr} {fd : FuncData} {ps : List Str} {sp : Sp} {dvs : List V} {ds : List Value} {E : XK} {x m : Str} {p pos apos : Pos} {e o : Expr} {es : List Expr} {ta : TE} {t : TA}
theorem OP {pins : List (Addr × Obj)} {σ : St} {H : Hp} {s : Shared} {Q : VK} {us : List Value} {vs : List V} (F : Aj X.prog X.w X.K X.mg X.base CX k f fd ps sp) (hr : BY k X.A) (hb : Binds X.K fd ps ds) (hd : Ae dvs ds) (hx : Cp CX X E)
  (I : Inv X pins σ H s) (r : Ae vs us) (h : sp (vs ++ dvs) H Q E) : wpAny (model X.prog X.w) X.A (call (.ref f) us) (EP X pins σ Q) X.xe s := by
 have r2 : Ae (vs ++ dvs) (us ++ ds) := r.append hd
 have hl : (us ++ ds).length = ps.length := by rw [← r2.length]; exact F.len _ _ _ _ h
 refine wpAny_call (codeAny_mono (F.run X.A X.stack s H ⟨us, []⟩ (us ++ ds) (vs ++ dvs) Q E hr I.env0 (hb s us I.kIn hl) r2 h) fun r s' hq => ?_)
 cases r with
 | error e => exact hx pins σ H s e s' I hq
 | ok fl =>
  cases fl with
  | ret u => exact I.after hq
  | next => exact False.elim hq
  | brk => exact False.elim hq
  | cont => exact False.elim hq
theorem SO (F : Aj X.prog X.w X.K X.mg X.base CX k f fd ps sp) (hr : BY k X.A) (hg : Gl X x) (hm : X.mg x = some (.ref f)) (hk : W.keepIn X.K (.ref f) = true) (hb : Binds X.K fd ps ds) (hd : Ae dvs ds) (hx : Cp CX X E)
  (ha : PA X (e :: es) t) (hdb : (x == ("__debug__" : Str)) = false := by decide) (he : starEach (e :: es) X.env = (false, eval e X.env) :: starEach es X.env := by rfl) (hpl : (backTo pos (starEach es X.env)).any (·.1) = false := by rfl) :
  PE X (.Call (.Name x p) (e :: es) [] pos) (Dg sp dvs E t) := by
 intro pins s σ H Q I h
 refine wpAny_Call_Name_kw (E2 I hg hm ?_ hdb)
 refine W.callWith_K (h₀ := X.base) I.ok.mod.kin hk (thn (ha pos pins s σ H _ I h) fun us s1 ⟨vs, H1, I1, r, q⟩ => ⟨I1.kIn, ?_⟩) he hpl
 exact OP F hr hb hd hx I1 r q
theorem AW {pl : Sem Bool} (he : PE X o ta) (c : Cls X.K C) (hm : Pn X.K C m f) (F : Aj X.prog X.w X.K X.mg X.base CX k f fd ps sp) (hr : BY k X.A) (hb : Binds X.K fd ps ds) (hd : Ae dvs ds) (hx : Cp CX X E) (ha : PA X (e :: es) t)
  (hst : starEach (e :: es) X.env = (false, eval e X.env) :: starEach es X.env := by rfl) (hpl : (backTo pos (starEach es X.env)).any (·.1) = false := by rfl)
  (ht : eval (.Call (.Attribute o m apos) (e :: es) [] pos) X.env = (do
   let ov ← eval o X.env
   standAt apos.atName
   let (f, first) ← holding [ov] (getMethod ov m pl)
   callWith pos f first (backTo pos (starEach (e :: es) X.env)) (backToKw pos (keywordEach [] X.env))) := by rfl) :
  PE X (.Call (.Attribute o m apos) (e :: es) [] pos) (GG C m sp dvs E ta t) := by
 intro pins s σ H Q I h
 refine W.methodCall_KW (pl := pl) (thn (he pins s σ H _ I h) fun u s1 ⟨x, H1, I1, rx, a, dx, fs, ex, ea, l, q⟩ => ?_) ht
 subst ex
 obtain rfl : u = Value.ref a := rx
 refine He I1 ea c hm l ?_
 refine W.callWith_K (first := [.ref a]) (h₀ := X.base) I.ok.mod.kin hm.kp (thn (ha pos pins s1 σ H1 _ I1 q) fun us s2 ⟨vs, H2, I2, r, q2⟩ => ⟨I2.kIn, ?_⟩) hst hpl
 exact OP (us := .ref a :: us) (vs := .ref a :: vs) F hr hb hd hx I2 (.cons rfl r) q2
theorem RY {pl : Sem Bool} (he : PE X o ta) (c : Cls X.K C) (hm : Pn X.K C m f) (F : Aj X.prog X.w X.K X.mg X.base CX k f fd ps sp) (hr : BY k X.A) (hb : Binds X.K fd ps ds) (hd : Ae dvs ds) (hx : Cp CX X E)
  (ht : eval (.Call (.Attribute o m apos) [] [] pos) X.env = (do
   let ov ← eval o X.env
   standAt apos.atName
   let (f, first) ← holding [ov] (getMethod ov m pl)
   callWith pos f first (backTo pos (starEach [] X.env)) (backToKw pos (keywordEach [] X.env))) := by rfl) :
  PE X (.Call (.Attribute o m apos) [] [] pos) (GG C m sp dvs E ta Hb) := by
 intro pins s σ H Q I h
 refine W.methodCall_KW (pl := pl) (thn (he pins s σ H _ I h) fun u s1 ⟨x, H1, I1, rx, a, dx, fs, ex, ea, l, q⟩ => ?_) ht
 subst ex
 obtain rfl : u = Value.ref a := rx
 refine He I1 ea c hm l ?_
 exact W.callWith_K0 (first := [.ref a]) I1.kIn hm.kp (OP (us := [.ref a]) (vs := [.ref a]) F hr hb hd hx I1 (.cons rfl .nil) q)
structure Mk (K : W.Frag) (C f : Addr) : Prop where
 makes : W.makesIn K C = true
 init : W.findIn K (.ref C) "__init__" = some (some (.ref f))
 fn : W.isFn K (.ref f) = true
 kp : W.keepIn K (.ref C) = true
theorem RS {pins : List (Addr × Obj)} {σ : St} {H : Hp} {s : Shared} {Q : VK} {us : List Value} {vs : List V} (M : Mk X.K C f) (F : Aj X.prog X.w X.K X.mg X.base CX k f fd ps sp) (hr : BY (k + 1) X.A) (hb : Binds X.K fd ps ds) (hd : Ae dvs ds)
  (hx : Cp CX X E) (I : Inv X pins σ H s) (r : Ae vs us)
  (h : ∀ x dx, H x = none → H dx = none → dx ≠ x → sp (.ref x :: (vs ++ dvs)) (upd (upd H dx (.own x)) x (.ins C dx [])) (fun v H2 => v = .non ∧ Q (.ref x) H2) E) :
  wpAny (model X.prog X.w) X.A (call (.ref C) us) (EP X pins σ Q) X.xe s := by
 have hq := h (s.heap.objs.size + 1) s.heap.objs.size (I.hok.fresh (Nat.le_succ _)) (I.hok.fresh (zB _)) (zP (Nat.lt_succ_self _))
 have I2 := Inv.made (C := C) I
 have r2 : Ae (V.ref (s.heap.objs.size + 1) :: (vs ++ dvs)) (Value.ref (s.heap.objs.size + 1) :: (us ++ ds)) := .cons rfl (r.append hd)
 have hl : (Value.ref (s.heap.objs.size + 1) :: us ++ ds).length = ps.length := by
  have e := r2.length
  rw [F.len _ _ _ _ hq] at e
  exact e.symm
 refine wpAny_call (RF (f := f) I.kIn M.makes M.init (beq_iff_eq.mp M.fn) (codeAny_mono (F.run _ X.stack _ _ ⟨Value.ref (s.heap.objs.size + 1) :: us, []⟩ (Value.ref (s.heap.objs.size + 1) :: (us ++ ds)) _ _ E (hr.make C us [])
  (I2.env0.make C us []) (hb _ (Value.ref (s.heap.objs.size + 1) :: us) I2.kIn hl) r2 hq) fun r s' hq' => ?_))
 cases r with
 | error e => exact hx pins σ _ _ e s' I2 hq'
 | ok fl =>
  cases fl with
  | ret u =>
   obtain ⟨v, H', I3, rv, ev, q3⟩ := I2.after hq'
   subst ev
   exact ⟨rv, ⟨V.ref (s.heap.objs.size + 1), H', I3, rfl, q3⟩⟩
  | next => exact False.elim hq'
  | brk => exact False.elim hq'
  | cont => exact False.elim hq'
theorem Rk (M : Mk X.K C f) (F : Aj X.prog X.w X.K X.mg X.base CX k f fd ps sp) (hr : BY (k + 1) X.A) (hg : Gl X x) (hm : X.mg x = some (.ref C)) (hb : Binds X.K fd ps ds) (hd : Ae dvs ds) (hx : Cp CX X E)
  (hdb : (x == ("__debug__" : Str)) = false := by decide) : PE X (.Call (.Name x p) [] [] pos) (Gv C sp dvs E Hb) := by
 intro pins s σ H Q I h
 refine wpAny_Call_Name_kw (E2 I hg hm ?_ hdb)
 exact W.callWith_K0 I.kIn M.kp (RS (us := []) M F hr hb hd hx I .nil h)
end
section
variable {X : Cx} {CX : CXT} {k : Nat} {f C : Addr} {fd : FuncData} {ps ks : List Str} {sp : Sp} {E : XK} {x m : Str} {p pos apos kpos : Pos} {e o : Expr} {es : List Expr} {kws : List Keyword} {te ta : TE} {t tk : TA} {nm : Option Str}
variable {g : List Value → List Value → List Value} {gV : List V → List V → List V}
end
structure AL (N P : List Str) (sc : Scope) : Prop where
 kind : sc.kind = .function
 co : sc.isCoroutine = false
 gen : sc.isGenerator = false
 nd : N.Nodup
 pre : N.take P.length = P
 par : ∀ x ∈ P, sc.names.lookup x = some .local ∨ sc.names.lookup x = some .cell
 nofree : ∀ y ∈ sc.names, y.2 ≠ .free
theorem Mr {kindOf : Str → Option NameKind} {x : Str} : ∀ {binds : List (Str × Value)} {m : Str → Option Value}, (∀ v, (x, v) ∉ binds) → bindL kindOf binds m x = m x
 | [], _, _ => rfl
 | (n, v) :: r, m, h => by
  unfold bindL
  rw [Mr fun w hw => h w (zC _ hw)]
  split
  ·have : x ≠ n := by rintro rfl; exact h v zQ
   simp [this]
  ·rfl
theorem MO {kindOf : Str → Option NameKind} {x : Str} : ∀ {binds : List (Str × Value)} {m : Str → Option Value}, (∀ v, (x, v) ∉ binds) → bindC kindOf binds m x = m x
 | [], _, _ => rfl
 | (n, v) :: r, m, h => by
  unfold bindC
  rw [MO fun w hw => h w (zC _ hw)]
  split
  ·rfl
  ·have : x ≠ n := by rintro rfl; exact h v zQ
   simp [this]
theorem My {kindOf : Str → Option NameKind} {x : Str} {v : Value} : ∀ {P : List Str} {vs : List Value} {i : Nat} {m : Str → Option Value}, P.Nodup → P[i]? = some x → vs[i]? = some v → kindOf x = some .local →
  bindL kindOf (P.zip vs) m x = some v
 | [], _, _, _, _, h, _, _ => by simp at h
 | _ :: _, [], _, _, _, _, h, _ => by simp at h
 | p :: P, w :: vs, 0, m, nd, h1, h2, hk => by
  simp at h1 h2; subst h1; subst h2
  show bindL kindOf ((p, w) :: P.zip vs) m p = _
  unfold bindL
  rw [Mr fun v hv => (List.nodup_cons.mp nd).1 (List.of_mem_zip hv).1, if_pos hk]
  simp
 | p :: P, w :: vs, i + 1, m, nd, h1, h2, hk => by
  show bindL kindOf ((p, w) :: P.zip vs) m x = _
  unfold bindL
  exact My (i := i) (List.nodup_cons.mp nd).2 (by simpa using h1) (by simpa using h2) hk
theorem MV {kindOf : Str → Option NameKind} {x : Str} {v : Value} : ∀ {P : List Str} {vs : List Value} {i : Nat} {m : Str → Option Value}, P.Nodup → P[i]? = some x → vs[i]? = some v → kindOf x ≠ some .local →
  bindC kindOf (P.zip vs) m x = some v
 | [], _, _, _, _, h, _, _ => by simp at h
 | _ :: _, [], _, _, _, _, h, _ => by simp at h
 | p :: P, w :: vs, 0, m, nd, h1, h2, hk => by
  simp at h1 h2; subst h1; subst h2
  show bindC kindOf ((p, w) :: P.zip vs) m p = _
  unfold bindC
  rw [MO fun v hv => (List.nodup_cons.mp nd).1 (List.of_mem_zip hv).1, if_neg hk]
  simp
 | p :: P, w :: vs, i + 1, m, nd, h1, h2, hk => by
  show bindC kindOf ((p, w) :: P.zip vs) m x = _
  unfold bindC
  exact MV (i := i) (List.nodup_cons.mp nd).2 (by simpa using h1) (by simpa using h2) hk
noncomputable def start (N : List Str) (vs : List V) : St := vs.map some ++ List.replicate (N.length - vs.length) none
noncomputable def A9 (CX : CXT) (P : Program) (w : World) (K : W.Frag) (mg : Str → Option Value) (base : Heap) (N : List Str) (qual : Str) (scope : Scope) (f : Addr) (cd : Value) (A : Around) (outer : List Env) (s : Shared) (H : Hp) (E : XK) : Cx where
 prog := P
 w := w
 K := K
 mg := mg
 base := base
 A := A.deeper (envOfC qual scope s.heap.objs.size f cd)
 N := N
 s₀ := s
 H₀ := H
 env := envOfC qual scope s.heap.objs.size f cd
 outer := outer
 stack := envOfC qual scope s.heap.objs.size f cd :: outer
 ex := []
 calm := true
 fn := fun _ => true
 pn := []
 xe := fun e s' => wpAny (model P w) (A.deeper (envOfC qual scope s.heap.objs.size f cd)) (leaving (envOfC qual scope s.heap.objs.size f cd) e) (fun _ s'' => CX outer H s E e s'') (fun e' s'' => CX outer H s E e' s'') s'
theorem N9 {sc : Scope} {n : Nat} {x : Str} (h : sc.names.lookup x = some .cell) : ∃ c, (cellsFrom n sc.names []).lookup x = some c := by
 have q := W.cellsFrom_some sc.names n [] (.inl h)
 exact Option.isSome_iff_exists.mp q
theorem MX {CX : CXT} {P : Program} {w : World} {K : W.Frag} {mg : Str → Option Value} {base : Heap} {N ps : List Str} {qual : Str} {scope : Scope} {f : Addr} {cd : Value} {A : Around} {outer : List Env} {s s1 : Shared} {H : Hp} {E : XK} {us : List Value} {vs : List V}
  (S : AL N ps scope) (hd : A.handled = none) (e0 : NG P w K mg base A outer s H) (hl : vs.length = ps.length) (r : Ae vs us)
  (x : InCallC s s.heap.objs.size (bindL (envOfC qual scope s.heap.objs.size f cd).kindOf (ps.zip us) fun _ => none) (cellsFrom (s.heap.objs.size + 1) scope.names []) (bindC (envOfC qual scope s.heap.objs.size f cd).kindOf (ps.zip us) fun _ => none) s1) :
  Inv (A9 CX P w K mg base N qual scope f cd A outer s H E) [] (start N vs) H s1 := by
 have hpl : ps.length ≤ N.length := by have := congrArg List.length S.pre; rw [List.length_take] at this; lia
 obtain ⟨h1, tk, rfl, hk⟩ := x.done
 have noA : ∀ b : Addr, b ∉ (A9 CX P w K mg base N qual scope f cd A outer s H E).ex := fun b z => absurd (show b ∈ ([] : List Addr) from z) (by simp)
 refine ⟨⟨e0.mod, S.kind, rfl, rfl, zB _, fun y z c h1 h2 => ?_, fun y hy => ?_, fun y c _ h => ?_, fun _ => hd, Around.frames_deeper e0.frames, .inr ⟨rfl, rfl⟩, fun b z => absurd z (noA b), e0.bs, e0.bsz, fun b _ _ => noA b, fun b z => absurd z (noA b), e0.funs, e0.frf⟩,
  rfl, e0.bare, Un.kept hk, ⟨_, x.toInCall.ns, fun i y v h1 h2 h3 => ?_⟩, fun y c h => ⟨_, x.cell y c h⟩, e0.hok.fresh (zB _), fun y c h => ?_, fun p hp => absurd (show p ∈ ([] : List (Addr × Obj)) from hp) (by simp), e0.hok.kept hk, ?_⟩
 ·exact name_of_addr x.apart (PySem.mem_of_lookup h1) (PySem.mem_of_lookup h2)
 ·have hy : scope.names.lookup y = some .cell ∨ scope.names.lookup y = some .free := hy
  rcases hy with hy | hy
  ·exact N9 hy
  ·exact absurd rfl (S.nofree _ (PySem.mem_of_lookup hy))
 ·exact Nat.le_of_lt (x.above y c (PySem.mem_of_lookup h))
 ·have hi : i < vs.length := by
   unfold start at h2
   by_cases hi : i < vs.length
   ·exact hi
   ·rw [List.getElem?_append_right (by simpa using hi)] at h2
    rw [List.getElem?_replicate] at h2
    split at h2 <;> cases h2
  have ha : vs[i]? = some v := by
   unfold start at h2
   rw [List.getElem?_append_left (by simpa using hi), zG] at h2
   cases e : vs[i]? with
   | none => rw [e] at h2; cases h2
   | some a => rw [e] at h2; cases h2; rfl
  obtain ⟨u, hu, rv⟩ := r.get ha
  have hp : ps[i]? = some y := by
   rw [← S.pre, List.getElem?_take_of_lt (by lia)]; exact h1
  have ndP : ps.Nodup := by rw [← S.pre]; exact S.nd.sublist (List.take_sublist _ _)
  refine ⟨u, rv, ?_⟩
  rcases S.par y (zT hp) with k | k
  ·exact .inl ⟨k, My ndP hp hu k⟩
  ·obtain ⟨c, e⟩ := N9 (n := s.heap.objs.size + 1) k
   refine .inr ⟨.inl k, c, e, ?_⟩
   have q := x.cell y c e
   rw [MV ndP hp hu (by show scope.names.lookup y ≠ _; rw [k]; decide)] at q
   exact q
 ·exact e0.hok.fresh (Nat.le_of_lt (x.above y c (PySem.mem_of_lookup h)))
 ·unfold start
  show _ = N.length
  rw [zW, z6, List.length_replicate]
  lia
theorem PK {CX : CXT} {P : Program} {w : World} {K : W.Frag} {mg : Str → Option Value} {base : Heap} {k : Nat} {f : Addr} {name qual : Str} {params : Arguments} {body : List Stmt} {scope : Scope} {dV kV doc pm cdv ct oc : Value} {an od : Option Addr}
  {osl : Array (Option Value)} {N ps : List Str} {sp : Sp} (lk : K.lookup f = some ⟨oc, od, .func (W.fnOf name qual params body scope dV kV doc pm an cdv ct), osl⟩) (hcd : W.codeIn K cdv qual = true) (S : AL N ps scope)
  (len : ∀ vs H Q E, sp vs H Q E → vs.length = ps.length)
  (hbody : ∀ (A : Around) (outer : List Env) (s : Shared) (H : Hp) (vs : List V) (Q : VK) (E : XK), BY k (A.deeper (envOfC qual scope s.heap.objs.size f cdv)) → sp vs H Q E →
   ∃ t, PSs (A9 CX P w K mg base N qual scope f cdv A outer s H E) body t ∧ t { nx := fun _ H' => Q .non H', rt := Q } (start N vs) H) :
  Aj P w K mg base CX (k + 1) f (W.fnOf name qual params body scope dV kV doc pm an cdv ct) ps sp := by
 refine ⟨len, fun A outer s H args us vs Q E hr e0 hb r hsp => ?_⟩
 have hl := len _ _ _ _ hsp
 have KX : K.In s.heap := e0.mod.kin.keeps fun b o e => (e0.bs b o e).1
 have lim : s.heap.NoLimit := e0.mod.nolimit.keeps fun b o e => (e0.bs b o e).1
 have hkind : ∀ y ∈ ps.zip us, scope.names.lookup y.1 = some .local ∨ (scope.names.lookup y.1 = some .cell ∧ ((cellsFrom (s.heap.objs.size + 1) scope.names []).lookup y.1).isSome = true) := fun ⟨n, v⟩ hy => by
  rcases S.par n (List.of_mem_zip hy).1 with q | q
  ·exact .inl q
  ·exact .inr ⟨q, W.cellsFrom_some _ _ _ (.inl q)⟩
 refine codeAny_call_function hr.depth (KX _ _ lk) rfl S.co S.gen rfl (W.codeRec_of KX hcd) (hb _ _ _ _ ?_)
 refine wpAny_newFunctionEnv_cells S.kind hkind fun env he s1 x => ?_
 subst he
 refine ⟨lim.keeps x.toInCall.keep, codeAny_func ?_⟩
 obtain ⟨t, ht, hq⟩ := hbody A outer s H vs Q E (hr.deeper _) hsp
 have I : Inv (A9 CX P w K mg base N qual scope f cdv A outer s H E) [] (start N vs) H s1 := MX S hr.hd e0 hl r x
 refine wpAny_mono (ht [] s1 (start N vs) H _ I hq) (fun fl s' hs => ?_) fun e s' hs => hs
 have fin : ∀ {σ' : St} {H' : Hp} {v : V} {u : Value}, Inv (A9 CX P w K mg base N qual scope f cdv A outer s H E) [] σ' H' s' → RelV v u → Q v H' → CE outer P w H s Q u s' :=
  fun {σ' H' v u} J rv q => ⟨v, H', J.os, J.bare, J.base, J.hok, rv, q⟩
 cases fl with
 | ret u =>
  obtain ⟨v, σ', H', J, rv, q⟩ := hs
  exact fin J rv q
 | next =>
  obtain ⟨σ', H', J, q⟩ := hs
  exact fin (v := V.non) (u := Value.none) J rfl q
 | brk =>
  obtain ⟨_, _, _, q⟩ := hs
  exact False.elim q
 | cont =>
  obtain ⟨_, _, _, q⟩ := hs
  exact False.elim q
section
variable {X : Cx} {x : Str} {p pos : Pos} {e : Expr} {es : List Expr} {t : TA} {id T : String} {r : List V → Hp → VK → Prop}
noncomputable def tCB (r : List V → Hp → VK → Prop) (t : TA) : TE := fun σ H Q => t σ H fun vs H1 => r vs H1 Q
theorem AK (hc : B2 X (.builtin id) r) (hg : Gl X x) (hm : X.mg x = none) (hv : bootBuiltins x = some (.builtin id)) (ha : PA X (e :: es) t) (hn : x ≠ "__name__" := by decide) (hdb : (x == ("__debug__" : Str)) = false := by decide)
  (he : starEach (e :: es) X.env = (false, eval e X.env) :: starEach es X.env := by rfl) (hpl : (backTo pos (starEach es X.env)).any (·.1) = false := by rfl) : PE X (.Call (.Name x p) (e :: es) [] pos) (tCB r t) := by
 intro pins s σ H Q I h
 refine wpAny_Call_Name_kw (Hk I hg hm hv ?_ hn hdb)
 exact PyProof.Rows.callWith_builtin1 (thn (ha pos pins s σ H _ I h) fun us s1 ⟨vs, H1, I1, r1, q1⟩ => hc pins s1 σ H1 vs us Q I1 r1 q1) he hpl
theorem A1 (hc : B2 X (.type T) r) (hg : Gl X x) (hm : X.mg x = none) (hv : bootBuiltins x = some (.type T)) (ha : PA X (e :: es) t) (hn : x ≠ "__name__" := by decide) (hdb : (x == ("__debug__" : Str)) = false := by decide)
  (he : starEach (e :: es) X.env = (false, eval e X.env) :: starEach es X.env := by rfl) (hpl : (backTo pos (starEach es X.env)).any (·.1) = false := by rfl) : PE X (.Call (.Name x p) (e :: es) [] pos) (tCB r t) := by
 intro pins s σ H Q I h
 refine wpAny_Call_Name_kw (Hk I hg hm hv ?_ hn hdb)
 exact PyProof.Rows.callWith_type1 (thn (ha pos pins s σ H _ I h) fun us s1 ⟨vs, H1, I1, r1, q1⟩ => hc pins s1 σ H1 vs us Q I1 r1 q1) he hpl
end
end L2
namespace HT
open PySem PyProof.Rows
noncomputable def lexLt : List Int → List Int → Bool
 | [], [] => false
 | [], _ :: _ => true
 | _ :: _, [] => false
 | x :: xs, y :: ys => if x = y then lexLt xs ys else decide (x < y)
theorem lexLt_cons (x y : Int) (xs ys : List Int) : lexLt (x :: xs) (y :: ys) = if x = y then lexLt xs ys else decide (x < y) := rfl
section
open PySem.SeqAt
open PySem.AutoSeq1 (wpAny_loadPart')
open PySem.MeetsSeq PySem.MeetsSeq2 PySem.MeetsSeq3
end
section
variable {prog : Program} {w : World} {A : Around} {E : Value → Shared → Prop} {s : Shared}
noncomputable def sIx (n d : Nat) : Option Int → Nat
 | none => d
 | some v => if v < 0 then (v + (n : Int)).toNat else min v.toNat n
theorem sIx_none (n d : Nat) : sIx n d none = d := rfl
theorem sIx_nat (n d k : Nat) : sIx n d (some (k : Int)) = min k n := by
 show (if (k : Int) < 0 then ((k : Int) + (n : Int)).toNat else min (k : Int).toNat n) = min k n
 rw [if_neg (by lia), Int.toNat_natCast]
end
end HT
namespace L2
open PySem PySem.Spec PyProof.Rows
noncomputable abbrev TO := St → Hp → (Option Int → Hp → Prop) → Prop
noncomputable def PO (X : Cx) (e : Option Expr) (t : TO) : Prop :=
 ∀ (pins : List (Addr × Obj)) (s : Shared) (σ : St) (H : Hp) (Q : Option Int → Hp → Prop), Inv X pins σ H s → t σ H Q →
  wpAny (model X.prog X.w) X.A (evalPart e X.env) (fun u s' => ∃ o H', Inv X pins σ H' s' ∧ IsPart u o ∧ Q o H') X.xe s
noncomputable def CW : TO := fun _ H Q => Q none H
noncomputable def HU (t : TE) : TO := fun σ H Q => t σ H fun x H1 => ∃ i, x = .int i ∧ Q (some i) H1
theorem intsAre_of {ns : List Int} : ∀ {us : List Value}, Ae (ns.map V.int) us → IntsAre us ns := by
 induction ns with
 | nil => intro us r; rw [List.map_nil] at r; cases r; exact .nil
 | cons n ns ih =>
  intro us r
  rw [zb] at r
  cases r with
  | cons r1 r2 =>
   obtain ⟨t, e⟩ := r1
   subst e
   exact .cons n t (ih r2)
section
variable {X : Cx} {e : Expr} {te : TE} {lo hi : Option Expr} {tl th : TO} {pos p2 : Pos}
theorem Hy : PO X none CW := by
 intro pins s σ H Q I h
 rw [evalPart_none]
 exact wpAny_pure ⟨none, H, I, .none, h⟩
theorem JD (h : PE X e te) : PO X (some e) (HU te) := by
 intro pins s σ H Q I hw
 rw [evalPart_some]
 refine thn (h pins s σ H _ I hw) fun u s1 zq => ?_
 obtain ⟨x, H1, I1, r1, q1⟩ := zq
 obtain ⟨i, rfl, q⟩ := q1
 obtain ⟨t, rfl⟩ := r1
 exact ⟨some i, H1, I1, .int i t, q⟩
noncomputable def SlR (X : Cx) (r : V → Option Int → Option Int → Hp → VK → Prop) : Prop :=
 ∀ (pins : List (Addr × Obj)) (s : Shared) (σ : St) (H : Hp) (x : V) (v vl vu : Value) (lo hi : Option Int) (sl : Addr) (Q : VK), Inv X pins σ H s → RelV x v → s.heap.IsSliceOf sl vl vu .none → IsPart vl lo → IsPart vu hi → r x lo hi H Q →
  ∃ T id, typeLookup (.type T) "__getitem__" = pure (some (.builtin id)) ∧ s.TypeIs v T ∧ wpAny (model X.prog X.w) X.A (getItem v (.ref sl)) (EP X pins σ Q) X.xe s
noncomputable def tSl (r : V → Option Int → Option Int → Hp → VK → Prop) (te : TE) (tl th : TO) : TE := fun σ H Q => te σ H fun x H1 => tl σ H1 fun l H2 => th σ H2 fun u H3 => r x l u H3 Q
theorem GI {r : V → Option Int → Option Int → Hp → VK → Prop} (hr : SlR X r) (he : PE X e te) (hl : PO X lo tl) (hu : PO X hi th) : PE X (.Subscript e (.Slice lo hi none p2) pos) (tSl r te tl th) := by
 intro pins s σ H Q I h
 refine Subscript_ (thn (he pins s σ H _ I h) fun v s1 zq => ?_)
 obtain ⟨x, H1, I1, r1, q1⟩ := zq
 refine wpAny_Slice (thn (hl pins s1 σ H1 _ I1 q1) fun vl s2 ⟨l, H2, I2, pl, q2⟩ => thn (hu pins s2 σ H2 _ I2 q2) fun vu s3 zq => ?_)
 obtain ⟨u, H3, I3, pu, q3⟩ := zq
 rw [evalPart_none]
 refine wpAny_pure ?_
 have I4 : Inv X pins σ H3 { s3 with heap := s3.heap.push { cls := .type "slice", data := .fields #[vl, vu, .none] } } := I3.kept (t' := s3.toks) fun b ob q => z7 _ q
 obtain ⟨T, id, hT, ht, hg⟩ := hr pins { s3 with heap := s3.heap.push { cls := .type "slice", data := .fields #[vl, vu, .none] } } σ H3 x v vl vu l u s3.heap.objs.size Q I4 r1 (Heap.IsSliceOf.new ..) pl pu q3
 show wpAny (model X.prog X.w) X.A (subscriptTail e (.Slice lo hi none p2) v (.ref s3.heap.objs.size)) (EP X pins σ Q) X.xe { s3 with heap := s3.heap.push { cls := .type "slice", data := .fields #[vl, vu, .none] } }
 exact tail_any (ops := [.ref s3.heap.objs.size, v]) ht hT hg (by with_unfolding_all rfl)
noncomputable def L4 (xs : List V) (lo hi : Option Int) : List V := (xs.drop (HT.sIx xs.length 0 lo)).take (HT.sIx xs.length xs.length hi - HT.sIx xs.length 0 lo)
theorem Np (xs : List V) (lo hi : Option Int) : (L4 xs lo hi).length ≤ xs.length := by
 unfold L4
 rw [List.length_take, zh]
 lia
end
noncomputable def ixN (n : Nat) (i : Int) : Option Nat := if 0 ≤ i then (if i < n then some i.toNat else none) else if -(n : Int) ≤ i then some (i + n).toNat else none
noncomputable def atI {α : Type} (xs : List α) (i : Int) : Option α := (ixN xs.length i).bind fun j => xs[j]?
theorem Sh {n : Nat} {i : Int} {j : Nat} (h : ixN n i = some j) : seqIndex? i n = some j ∧ j < n ∧ -(n : Int) ≤ i ∧ i < n := by
 unfold ixN at h
 by_cases h0 : 0 ≤ i
 ·rw [if_pos h0] at h
  by_cases h1 : i < n
  ·rw [if_pos h1] at h
   have e : i.toNat = j := zI h
   exact ⟨by rw [seqIndex_of h0 h1, e], by lia, by lia, h1⟩
  ·rw [if_neg h1] at h; cases h
 ·rw [if_neg h0] at h
  by_cases h1 : -(n : Int) ≤ i
  ·rw [if_pos h1] at h
   have e : (i + n).toNat = j := zI h
   exact ⟨by rw [seqIndex_neg (by lia) h1, e], by lia, h1, by lia⟩
  ·rw [if_neg h1] at h; cases h
theorem PP {α : Type} {xs : List α} {i : Int} {v : α} (h : atI xs i = some v) : ∃ j, seqIndex? i xs.length = some j ∧ xs[j]? = some v ∧ j < xs.length ∧ -(xs.length : Int) ≤ i ∧ i < xs.length := by
 unfold atI at h
 cases e : ixN xs.length i with
 | none => rw [e] at h; cases h
 | some j =>
  rw [e] at h
  obtain ⟨h1, h2, h3, h4⟩ := Sh e
  exact ⟨j, h1, h, h2, h3, h4⟩
theorem NA {α : Type} {xs : List α} {j : Nat} {v : α} (h : xs[j]? = some v) : atI xs (j : Int) = some v := by
 have hj : j < xs.length := (z8.mp h).1
 have e : ixN xs.length (j : Int) = some j := by
  unfold ixN
  rw [if_pos (by lia), if_pos (by lia)]; simp
 unfold atI; rw [e]; exact h
noncomputable def Pe (b : Expr) : Prop := ∀ o i, subscripted b false o i = operate [o, i] (getItem o i)
noncomputable def IxR (X : Cx) (r : R2) : Prop :=
 ∀ (value slice : Expr) (pins : List (Addr × Obj)) (s : Shared) (σ : St) (H : Hp) (x y : V) (v u : Value) (Q : VK), Inv X pins σ H s → RelV x v → RelV y u → r x y H Q →
  subscripted slice false v u = operate [v, u] (getItem v u) → wpAny (model X.prog X.w) X.A (subscriptTail value slice v u) (EP X pins σ Q) X.xe s
noncomputable def MtR (X : Cx) (id : String) (r : V → List V → Hp → VK → Prop) : Prop :=
 ∀ (pins : List (Addr × Obj)) (s : Shared) (σ : St) (H : Hp) (x : V) (xs : List V) (v : Value) (us : List Value) (Q : VK), Inv X pins σ H s → RelV x v → Ae xs us → r x xs H Q →
  wpAny (model X.prog X.w) X.A (call (.builtin id) (v :: us)) (EP X pins σ Q) X.xe s
section
variable {X : Cx} {a b : Expr} {ta tb : TE} {pos : Pos}
theorem pe_ix {r : R2} (hr : IxR X r) (ha : PE X a ta) (hb : PE X b tb) (hs : Pe b) : PE X (.Subscript a b pos) (tOp r ta tb) := by
 intro pins s σ H Q I h
 exact Subscript_ (UX ha hb I h fun v u s2 x y H2 I2 rx ry q => hr a b pins s2 σ H2 x y v u Q I2 rx ry q (hs _ _))
noncomputable def Ln (K : W.Frag) : R2 := fun x y H Q => ∃ p xs i v, x = .ref p ∧ y = .int i ∧ SqL K H p xs ∧ atI xs i = some v ∧ Q v H
noncomputable def Lb (K : W.Frag) : R2 := fun x y H Q => ∃ p xs i v, x = .ref p ∧ y = .int i ∧ SqT K H p xs ∧ atI xs i = some v ∧ Q v H
theorem Bj : IxR X (Ln X.K) := by
 intro value slice pins s σ H x y v u Q I rx ry h hs
 obtain ⟨p, xs, i, z, rfl, rfl, hq, he, q⟩ := h
 cases rx
 obtain ⟨t, rfl⟩ := ry
 obtain ⟨its, r, pl, hz⟩ := I.list hq
 obtain ⟨j, h1, h2, h3, h4, h5⟩ := PP he
 obtain ⟨w, ew, rw'⟩ := r.get h2
 have hl := r.length
 have hn := Ku
 have fin : EP X pins σ Q w s := ⟨z, H, I, rw', q⟩
 by_cases h0 : 0 ≤ i
 ·have hj : i.toNat = j := by
   rw [seqIndex_of h0 h5] at h1
   exact zI h1
  exact item_listR pl.isList h0 (by lia) (by rw [hj]; simpa using ew) fin hs
 ·have hj : (i + (its.toArray.size : Int)).toNat = j := by
   rw [seqIndex_neg (by lia) h4] at h1
   rw [zJ, ← hl]
   exact zI h1
  exact subscriptTail_builtinR (x := w) pl.isList.typeIs slot_list_getitem.lookup
   (wpAny_getItem_list_neg (Q := fun r s' => r = w ∧ EP X pins σ Q r s') pl.isList (by lia) (by rw [zJ] <;> lia) (by lia) (by rw [hj]; simpa using ew) ⟨rfl, fin⟩) hs
theorem AO : IxR X (Lb X.K) := by
 intro value slice pins s σ H x y v u Q I rx ry h hs
 obtain ⟨p, xs, i, z, rfl, rfl, hq, he, q⟩ := h
 cases rx
 obtain ⟨t, rfl⟩ := ry
 obtain ⟨its, r, pl, hz⟩ := I.tuple hq
 obtain ⟨j, h1, h2, h3, h4, h5⟩ := PP he
 obtain ⟨w, ew, rw'⟩ := r.get h2
 have hl := r.length
 have hn := Ku
 have fin : EP X pins σ Q w s := ⟨z, H, I, rw', q⟩
 exact subscriptTail_builtinR (x := w) pl.typeIs slot_tuple_getitem.lookup
  (getItem_tuple (j := j) (Q := fun r s' => r = w ∧ EP X pins σ Q r s') pl (by lia) (by lia) (by rw [zJ, ← hl]; exact h1) (by simpa using ew) ⟨rfl, fin⟩) hs
noncomputable def JB : V → V → V → Hp → (Hp → Prop) → Prop := fun o i v H Q => ∃ p xs k j, o = .ref p ∧ i = .int k ∧ H p = some (.lst xs) ∧ ixN xs.length k = some j ∧ Q (upd H p (.lst (xs.set j v)))
theorem M5 (lo hi : Option Int) (n : Nat) : (sliceBounds lo hi none n).1 = ((HT.sIx n 0 lo : Nat) : Int) ∧ (sliceBounds lo hi none n).2.1 = ((HT.sIx n n hi : Nat) : Int) ∧ (sliceBounds lo hi none n).2.2 = 1 := by
 refine ⟨?_, ?_, rfl⟩
 ·cases lo with
  | none => simp [sliceBounds, HT.sIx]
  | some i =>
   simp only [sliceBounds, HT.sIx, Option.getD_none, show (1 : Int) > 0 by decide, if_true]
   by_cases h : i < 0
   ·simp only [h, if_true] <;> lia
   ·simp only [h, if_false] <;> lia
 ·cases hi with
  | none => simp [sliceBounds, HT.sIx]
  | some i =>
   simp only [sliceBounds, HT.sIx, Option.getD_none, show (1 : Int) > 0 by decide, if_true]
   by_cases h : i < 0
   ·simp only [h, if_true] <;> lia
   ·simp only [h, if_false] <;> lia
theorem MF (its : List Value) (lo hi : Option Int) : slicePick its.toArray lo hi none = ((its.drop (HT.sIx its.length 0 lo)).take (HT.sIx its.length its.length hi - HT.sIx its.length 0 lo)).toArray := by
 obtain ⟨h1, h2, h3⟩ := M5 lo hi its.toArray.size
 unfold slicePick
 rw [h1, h2, h3]
 simp only [sliceRange_one, pick_run, zJ] <;> rfl
noncomputable def rSlL (K : W.Frag) : V → Option Int → Option Int → Hp → VK → Prop := fun x lo hi H Q => ∃ a xs, x = .ref a ∧ SqL K H a xs ∧ ∀ p, H p = none → Q (.ref p) (upd H p (.lst (L4 xs lo hi)))
theorem SY : SlR X (rSlL X.K) := by
 intro pins s σ H x v vl vu lo hi sl Q I rx hs pl pu h
 obtain ⟨a, xs, rfl, hx, q⟩ := h
 cases rx
 obtain ⟨its, r, ht, hz⟩ := I.list hx
 have hlen := r.length
 refine ⟨"list", _, slot_list_getitem.lookup, ht.isList.typeIs, ?_⟩
 refine wpAny_getItem_list_slice ht.isList hs pl pu .none (by simp) ?_ (by rw [zJ] <;> lia)
 rw [MF, ← hlen]
 refine ⟨.ref s.heap.objs.size, _, I.laid (t' := s.toks) (o := .lst (L4 xs lo hi)) (fun b ob q => z7 _ q) (zB _) ?_, rfl, q _ (I.hok.fresh (zB _))⟩
 exact ⟨zL (Np xs lo hi) hz, _, 0, (r.drop (HT.sIx xs.length 0 lo)).take (HT.sIx xs.length xs.length hi - HT.sIx xs.length 0 lo), zM _ rfl⟩
noncomputable def IY : V → Bool
 | .non => true
 | .bl _ => true
 | .int _ => true
 | .str _ => true
 | _ => false
noncomputable def eqV : V → V → Bool
 | .non, .non => true
 | .bl a, .bl b => a == b
 | .bl a, .int b => (if a then 1 else 0) == b
 | .int a, .bl b => a == (if b then 1 else 0)
 | .int a, .int b => a == b
 | .str a, .str b => a == b
 | _, _ => false
theorem Ud {A : Around} {s : Shared} {y x : V} {u v : Value} (ry : RelV y u) (rx : RelV x v) (fy : IY y = true) (fx : IY x = true) : SeqAt.EqAt A s u v (eqV y x) := by
 cases y with
 | non =>
  cases ry
  cases x with
  | non => cases rx; exact SeqAt.EqAt.same _
  | bl b => cases rx; exact SeqAt.EqAt.none_bool b
  | int b => obtain ⟨t, rfl⟩ := rx; exact SeqAt.EqAt.none_int b t
  | str b => obtain ⟨t, rfl⟩ := rx; exact SeqAt.EqAt.none_str b t
  | _ => exact absurd (show false = true from fx) zN
 | bl a =>
  cases ry
  cases x with
  | non => cases rx; exact SeqAt.EqAt.bool_none a
  | bl b => cases rx; exact SeqAt.EqAt.bool_bool a b
  | int b => obtain ⟨t, rfl⟩ := rx; exact SeqAt.EqAt.bool_int a b t
  | str b => obtain ⟨t, rfl⟩ := rx; exact SeqAt.EqAt.bool_str a b t
  | _ => exact absurd (show false = true from fx) zN
 | int a =>
  obtain ⟨t', rfl⟩ := ry
  cases x with
  | non => cases rx; exact SeqAt.EqAt.int_none a t'
  | bl b => cases rx; exact SeqAt.EqAt.int_bool a t' b
  | int b => obtain ⟨t, rfl⟩ := rx; exact SeqAt.EqAt.int_int a t' b t
  | str b => obtain ⟨t, rfl⟩ := rx; exact SeqAt.EqAt.int_str a t' b t
  | _ => exact absurd (show false = true from fx) zN
 | str a =>
  obtain ⟨t', rfl⟩ := ry
  cases x with
  | non => cases rx; exact SeqAt.EqAt.str_none a t'
  | bl b => cases rx; exact SeqAt.EqAt.str_bool a t' b
  | int b => obtain ⟨t, rfl⟩ := rx; exact SeqAt.EqAt.str_int a t' b t
  | str b => obtain ⟨t, rfl⟩ := rx; exact SeqAt.EqAt.str_str a t' b t
  | _ => exact absurd (show false = true from fx) zN
 | _ => exact absurd (show false = true from fy) zN
noncomputable def eqU (x : V) (u : Value) : Bool := match u with
 | .none => eqV .non x
 | .bool b => eqV (.bl b) x
 | .int i _ => eqV (.int i) x
 | .str z _ => eqV (.str z) x
 | _ => false
theorem RE {x y : V} {u : Value} (r : RelV y u) (f : IY y = true) : eqU x u = eqV y x := by
 cases y with
 | non => cases r; rfl
 | bl b => cases r; rfl
 | int i => obtain ⟨t, rfl⟩ := r; rfl
 | str z => obtain ⟨t, rfl⟩ := r; rfl
 | _ => exact absurd (show false = true from f) zN
theorem NN {x : V} : ∀ {xs : List V} {us : List Value}, Ae xs us → xs.all IY = true → us.any (eqU x) = xs.any fun y => eqV y x
 | _, _, .nil, _ => rfl
 | y :: xs, u :: us, .cons r t, f => by
  rw [List.all_cons, q9] at f
  rw [List.any_cons, List.any_cons, RE r f.1, NN t f.2]
theorem Kt {A : Around} {s : Shared} {x : V} {v : Value} (rx : RelV x v) (fx : IY x = true) : ∀ {xs : List V} {us : List Value}, Ae xs us → xs.all IY = true → ∀ u ∈ us, SeqAt.EqAt A s u v (eqU x u)
 | _, _, .nil, _ => fun u hu => by cases hu
 | y :: xs, u :: us, .cons r t, f => fun u' hu => by
  rw [List.all_cons, q9] at f
  rcases zH.mp hu with rfl | hu
  ·rw [RE r f.1]; exact Ud r rx f.1 fx
  ·exact Kt rx fx t f.2 u' hu
noncomputable def inV (x : V) (xs : List V) : Bool := xs.any fun y => eqV y x
noncomputable def rIn (K : W.Frag) (neg : Bool) : R2 := fun x y H Q => ∃ p xs, y = .ref p ∧ (SqL K H p xs ∨ SqT K H p xs) ∧ IY x = true ∧ xs.all IY = true ∧ Q (.bl (if neg then !inV x xs else inV x xs)) H
theorem Pq : OpR X (compareOp .In) (rIn X.K false) := by
 intro pins s σ H x y v u Q I rx ry h
 obtain ⟨p, xs, rfl, hq, fx, fs, q⟩ := h
 cases ry
 rcases hq with hq | hq
 ·obtain ⟨its, r, pl, hz⟩ := I.list hq
  refine SeqAt.in_listAt (eqU x) pl.isList (fun w hw => Kt rx fx r fs w (by simpa using hw)) ⟨.bl _, H, I, rfl, ?_⟩
  rw [show its.toArray.any (eqU x) = its.any (eqU x) by simp, NN r fs]
  exact q
 ·obtain ⟨its, r, pl, hz⟩ := I.tuple hq
  refine SeqAt.in_tupleAt (eqU x) pl (fun w hw => Kt rx fx r fs w (by simpa using hw)) ⟨.bl _, H, I, rfl, ?_⟩
  rw [show its.toArray.any (eqU x) = its.any (eqU x) by simp, NN r fs]
  exact q
theorem AZ : B2 X (.builtin "len") (fun xs H Q => ∃ p ys, xs = [.ref p] ∧ (SqL X.K H p ys ∨ SqT X.K H p ys) ∧ Q (.int ys.length) H) := by
 intro pins s σ H xs us Q I r h
 obtain ⟨p, ys, rfl, hq, q⟩ := h
 obtain ⟨u, rfl, rx⟩ := vals1 r
 cases rx
 have hn := Ku
 rcases hq with hq | hq
 ·obtain ⟨its, r', pl, hz⟩ := I.list hq
  have hlen := r'.length
  exact Calls.call_len_list pl.isList (by simp only [zJ] <;> lia) ⟨.int ys.length, H, I.tok _, ⟨s.toks + 1, by rw [zJ, hlen]⟩, q⟩
 ·obtain ⟨its, r', pl, hz⟩ := I.tuple hq
  have hlen := r'.length
  exact len_tuple pl (by simp only [zJ] <;> lia) ⟨.int ys.length, H, I.tok _, ⟨s.toks + 1, by rw [zJ, hlen]⟩, q⟩
theorem JH : B2 X (.builtin "len") (fun xs H Q => ∃ z, xs = [.str z] ∧ z.length ≤ sizeLine ∧ Q (.int z.length) H) := by
 intro pins s σ H xs us Q I r h
 obtain ⟨z, rfl, hz, q⟩ := h
 obtain ⟨u, rfl, t, rfl⟩ := vals1 r
 have hn := Ku
 exact len_str (by lia) ⟨.int z.length, H, I.tok _, ⟨_, rfl⟩, q⟩
theorem ND : B2 X (.type "list") (fun xs H Q => ∃ p ys, xs = [.ref p] ∧ (SqL X.K H p ys ∨ SqT X.K H p ys) ∧ ∀ l, H l = none → Q (.ref l) (upd H l (.lst ys))) := by
 intro pins s σ H xs us Q I r h
 obtain ⟨p, ys, rfl, hq, q⟩ := h
 obtain ⟨u, rfl, rx⟩ := vals1 r
 cases rx
 have fin : ∀ (its : List Value), Ae ys its → ys.length ≤ sizeLine → ∀ (h' : Heap) (c' : Nat), (∀ b o', s.heap.get? b = some o' → h'.get? b = some o') →
   h'.get? s.heap.objs.size = some { cls := .type "list", dict := none, data := .seq its.toArray c', slots := #[] } → EP X pins σ Q (.ref s.heap.objs.size) { s with heap := h' } := fun its r' hz h' c' kp e =>
  ⟨.ref s.heap.objs.size, _, I.laid (t' := s.toks) kp (zB _) (show B4 X.prog X.w _ h' _ (.lst ys) from ⟨hz, its, c', r', e⟩), rfl, q _ (I.hok.fresh (zB _))⟩
 rcases hq with hq | hq
 ·obtain ⟨its, r', pl, hz⟩ := I.list hq
  have hlen := r'.length
  obtain ⟨o, ho, hc, n, hd⟩ := pl.isList
  exact call_list_seq p (.inl rfl) ho hc hd (fun h' c' kp e => fin its r' hz h' c' kp e) (by simp only [zJ] <;> lia)
 ·obtain ⟨its, r', pl, hz⟩ := I.tuple hq
  have hlen := r'.length
  obtain ⟨o, ho, hc, n, hd⟩ := pl
  exact call_list_seq p (.inr rfl) ho hc hd (fun h' c' kp e => fin its r' hz h' c' kp e) (by simp only [zJ] <;> lia)
noncomputable def tyV (K : W.Frag) (T : String) (x : V) (H : Hp) : Prop := match x with
 | .str _ => T = "str"
 | .int _ => T = "int"
 | .ref p => (T = "list" ∧ ∃ xs, SqL K H p xs) ∨ (T = "tuple" ∧ ∃ o, K.lookup p = some o ∧ o.cls = .type "tuple" ∧ o.dict = none) ∨
   (T = "dict" ∧ ((∃ kvs, H p = some (.dK kvs)) ∨ ∃ kvs, H p = some (.dT kvs))) ∨ (T = "set" ∧ ∃ S n, H p = some (.set S n))
 | _ => False
theorem VY {pins : List (Addr × Obj)} {σ : St} {H : Hp} {s : Shared} {T : String} {x : V} {v : Value} (I : Inv X pins σ H s) (r : RelV x v) (ty : tyV X.K T x H) :
  s.TypeIs v T ∧ ∀ a, v = .ref a → ∃ ob, s.heap.get? a = some ob ∧ ob.dict = none := by
 cases x with
 | str z =>
  obtain ⟨t, rfl⟩ := r
  cases (show T = "str" from ty)
  exact ⟨typeIs_str s z t, fun _ e => nomatch e⟩
 | int i =>
  obtain ⟨t, rfl⟩ := r
  cases (show T = "int" from ty)
  exact ⟨typeIs_int s i t, fun _ e => nomatch e⟩
 | ref p =>
  cases r
  rcases ty with ⟨rfl, xs, hq⟩ | ⟨rfl, o, hk, hc, hd⟩ | ⟨rfl, hk⟩ | ⟨rfl, S, n, hk⟩
  ·obtain ⟨its, _, pl, _⟩ := I.list hq
   refine ⟨pl.isList.typeIs, fun a e => ?_⟩
   cases e
   obtain ⟨o, n, e, c, hd, _⟩ := pl
   exact ⟨o, e, hd⟩
  ·refine ⟨⟨o, I.kIn p o hk, hc⟩, fun a e => ?_⟩
   cases e
   exact ⟨o, I.kIn _ o hk, hd⟩
  ·have z : ∃ o, s.heap.get? p = some o ∧ o.ExactDict := by
    rcases hk with ⟨kvs, hk⟩ | ⟨kvs, hk⟩
    ·obtain ⟨_, _, _, _, o, _, _, e, ex, _⟩ := I.hok p _ hk
     exact ⟨o, e, ex⟩
    ·obtain ⟨_, _, _, _, o, _, _, e, ex, _⟩ := I.hok p _ hk
     exact ⟨o, e, ex⟩
   obtain ⟨o, e, ex⟩ := z
   refine ⟨⟨o, e, ex.1⟩, fun a e2 => ?_⟩
   cases e2
   exact ⟨o, e, ex.2.1⟩
  ·obtain ⟨o, _, _, _, e, ex, _⟩ := I.hok p _ hk
   refine ⟨⟨o, e, ex.1⟩, fun a e2 => ?_⟩
   cases e2
   exact ⟨o, e, ex.2.1⟩
 | _ => exact False.elim ty
noncomputable def tBM (K : W.Frag) (T : String) (r : V → List V → Hp → VK → Prop) (to : TE) (t : TA) : TE := fun σ H Q => to σ H fun x H1 => tyV K T x H1 ∧ t σ H1 fun xs H2 => r x xs H2 Q
variable {o e : Expr} {es : List Expr} {to : TE} {t : TA} {name : Str} {apos cpos : Pos} {T id : String} {r : V → List V → Hp → VK → Prop}
theorem PJ (pa : PlainAttrs T) (slot : Slot T name id) (hty : typeOf (.builtin id) = pure (.type "method_descriptor")) (hm : MtR X id r) (ho : PE X o to) (ha : PA X (e :: es) t)
  (hbase : attributeBase o name X.env (eval o X.env) = eval o X.env := by rfl)
  (hfew : ((backTo cpos (starEach (e :: es) X.env)).all (fun x => !x.1) && (backToKw cpos (keywordEach [] X.env)).all (fun x => x.1.isSome)
   && decide ((e :: es).length + ([] : List Keyword).length + (if ([] : List Keyword).isEmpty then 0 else 1) < 30)) = true := by rfl)
  (hline : (apos.endLine == cpos.line) = true := by rfl) (hs : starEach (e :: es) X.env = (false, eval e X.env) :: starEach es X.env := by rfl) (hplain : (backTo cpos (starEach es X.env)).any (·.1) = false := by rfl) :
  PE X (.Call (.Attribute o name apos) (e :: es) [] cpos) (tBM X.K T r to t) := by
 intro pins s σ H Q I h
 refine wpAny_Call_method_late hbase hfew hline rfl (thn (ho pins s σ H _ I h) fun v s1 zq => ?_)
 obtain ⟨x, H1, I1, r1, ty, q1⟩ := zq
 obtain ⟨h1, h2⟩ := VY I1 r1 ty
 refine ⟨T, id, pa, slot, hty, h1, h2, ?_⟩
 have hA := ha cpos pins s1 σ H1 _ I1 q1
 rw [hs] at hA ⊢
 refine Calls.callWith_builtin (by show (false || (backTo cpos (starEach es X.env)).any (·.1)) = false; rw [hplain] <;> rfl) (Calls.evalArgs_plain ?_)
 exact thn hA fun us s2 ⟨vs, H2, I2, r2, q2⟩ => hm pins s2 σ H2 x vs v us Q I2 r1 r2 q2
end
noncomputable def MtM (X : Cx) (id : String) (r : V → List V → Hp → VK → Prop) : Prop :=
 ∀ (pins : List (Addr × Obj)) (s : Shared) (σ : St) (H : Hp) (x : V) (xs : List V) (v : Value) (us : List Value) (Q : VK), Inv X pins σ H s → RelV x v → Ae xs us → r x xs H Q →
  wpAny (model X.prog X.w) X.A (call (.builtin id) (v :: us)) (EP X pins σ Q) X.xe s
theorem Ae.one {x : V} {us : List Value} (h : Ae [x] us) : ∃ u, us = [u] ∧ RelV x u := by
 cases h with
 | cons r q =>
  cases q
  exact ⟨_, rfl, r⟩
section
variable {X : Cx} {pins : List (Addr × Obj)} {σ : St} {H : Hp} {s : Shared} {l b : Addr} {xs ys zs : List V}
theorem Inv.lset {its its' : List Value} {n : Nat} {f : Array Value → Array Value} {t' : Nat} (I : Inv X pins σ H s) (hH : H l = some (.lst xs))
  (e : s.heap.get? l = some { cls := .type "list", data := .seq its.toArray n }) (hf : f its.toArray = its'.toArray) (hv : Ae ys its') (hz : ys.length ≤ sizeLine) :
  Inv X pins σ (upd H l (.lst ys)) { s with heap := s.heap.update l (Obj.mapSeq f), toks := t' } := by
 have q := PySem.IsL.update e f
 rw [hf] at q
 refine I.write (x := l) (e := l) (by rw [hH]; exact trivial) (.inl rfl) (fun b' u hb hu => (Heap.get?_update_other s.heap (Obj.mapSeq f) (Ne.symm hb)).trans hu) ⟨_, q⟩ ?_
 exact ⟨hz, its', _, hv, q⟩
theorem Inv.lnew {its : List Value} {t' : Nat} (I : Inv X pins σ H s) (hv : Ae ys its) (hz : ys.length ≤ sizeLine) :
  Inv X pins σ (upd H s.heap.objs.size (.lst ys)) { s with heap := s.heap.push { cls := .type "list", data := .seq its.toArray }, toks := t' } :=
 I.laid (fun _ _ q => z7 _ q) (zB _) ⟨hz, its, 0, hv, zM _ rfl⟩
theorem Inv.fresh (I : Inv X pins σ H s) : H s.heap.objs.size = none := I.hok.fresh (zB _)
theorem Inv.lstM (I : Inv X pins σ H s) (hH : H l = some (.lst xs)) : xs.length ≤ sizeLine ∧ ∃ (its : List Value) (n : Nat), Ae xs its ∧ xs.length = its.length ∧ s.heap.get? l = some { cls := .type "list", data := .seq its.toArray n } := by
 obtain ⟨z, its, n, r, e⟩ := I.hok l _ hH
 exact ⟨z, its, n, r, r.length, e⟩
end
section
variable {X : Cx}
noncomputable def Su : V → List V → Hp → VK → Prop := fun x vs H Q => ∃ l xs y, x = .ref l ∧ vs = [y] ∧ H l = some (.lst xs) ∧ xs.length < sizeLine ∧ Q .non (upd H l (.lst (xs ++ [y])))
theorem Jj : MtM X "list.append" Su := by
 intro pins s σ H x vs v us Q I rx rv h
 obtain ⟨l, xs, y, rfl, rfl, hH, hz, q⟩ := h
 cases rx
 obtain ⟨u, rfl, ru⟩ := rv.one
 obtain ⟨z, its, n, r, hl, e⟩ := I.lstM hH
 refine call_meets F.slot_list_append ⟨_, e, rfl⟩ F.entry_list_append (F.args_list_append_2 _ _) (PySem.list_append l its.toArray n u (by rw [zJ]; lia)) ⟨e, ?_⟩
 refine ⟨.non, _, I.lset (its' := its ++ [u]) hH e (by simp) (r.append (.cons ru .nil)) ?_, rfl, q⟩
 rw [zW, List.length_singleton]
 lia
noncomputable def rCat : R2 := fun x y H Q => ∃ l b xs zs, x = .ref l ∧ y = .ref b ∧ H l = some (.lst xs) ∧ H b = some (.lst zs) ∧ xs.length + zs.length ≤ sizeLine ∧ ∀ p, H p = none → Q (.ref p) (upd H p (.lst (xs ++ zs)))
theorem UC : OpR X (binaryOp .Add) rCat := by
 intro pins s σ H x y v u Q I rx ry h
 obtain ⟨l, b, xs, zs, rfl, rfl, hH, hB, hz, q⟩ := h
 cases rx
 cases ry
 obtain ⟨z, its, n, r, hl, e⟩ := I.lstM hH
 obtain ⟨z2, its2, n2, r2, hl2, e2⟩ := I.lstM hB
 refine PySem.P.add_list e e2 ?_ (by rw [zJ, zJ]; lia)
 have ea : its.toArray ++ its2.toArray = (its ++ its2).toArray := by simp
 rw [ea]
 exact ⟨.ref _, _, I.lnew (t' := s.toks) (r.append r2) (by rw [zW]; lia), rfl, q _ I.fresh⟩
end
section
variable {prog : Program} {w : World} {A : Around} {E : Value → Shared → Prop} {s : Shared}
set_option maxRecDepth 100000 in
end
section
variable {X : Cx}
end
section
variable {κ : Type} [DecidableEq κ]
noncomputable def Vu (kvs : List (κ × V)) (k : κ) : Option V := (kvs.find? fun kv => decide (kv.1 = k)).map (·.2)
noncomputable def putK (kvs : List (κ × V)) (k : κ) (v : V) : List (κ × V) :=
 if (kvs.any fun kv => decide (kv.1 = k)) = true then kvs.map (fun kv => if kv.1 = k then (kv.1, v) else kv) else kvs ++ [(k, v)]
noncomputable def dropK (kvs : List (κ × V)) (k : κ) : List (κ × V) := kvs.filter fun kv => decide (kv.1 ≠ k)
end
section
variable {P : Program} {w : World} {H : Hp} {h : Heap} {a : Addr}
end
noncomputable def R0 (H : Hp) (a : Addr) (y : V) (r : Option V) : Prop :=
 (∃ kvs k, Rd H a (.dK kvs) ∧ y = kV k ∧ r = Vu kvs k) ∨ ∃ kvs k b, Rd H a (.dT kvs) ∧ y = .ref b ∧ H b = some (.tup (k.map kV)) ∧ r = Vu kvs k
noncomputable def DPut (H : Hp) (a : Addr) (y v : V) (H' : Hp) : Prop :=
 (∃ kvs k, H a = some (.dK kvs) ∧ y = kV k ∧ kvs.length < sizeLine ∧ H' = upd H a (.dK (putK kvs k v))) ∨
 ∃ kvs k b, H a = some (.dT kvs) ∧ y = .ref b ∧ H b = some (.tup (k.map kV)) ∧ kvs.length < sizeLine ∧ H' = upd H a (.dT (putK kvs k v))
section
variable {X : Cx} {pins : List (Addr × Obj)} {σ : St} {H : Hp} {s : Shared} {a : Addr} {y v : V} {u r : Value} {o : Option V} {A : Around} {E : Value → Shared → Prop}
end
section
variable {X : Cx} {pins : List (Addr × Obj)} {σ : St} {H : Hp} {s : Shared} {a : Addr} {kvs : List (Key × V)} {k : Key} {u : Value} {A : Around} {E : Value → Shared → Prop}
end
noncomputable def Io (td ty : TE) : TE := fun σ H Q => td σ H fun x H1 => ty σ H1 fun y H2 => ∃ a v, x = .ref a ∧ R0 H2 a y (some v) ∧ Q v H2
noncomputable def NH (ty td : TE) : TE := fun σ H Q => ty σ H fun y H1 => td σ H1 fun x H2 => ∃ a o, x = .ref a ∧ R0 H2 a y o ∧ Q (.bl o.isSome) H2
noncomputable def C5 (ty td : TE) : TE := fun σ H Q => ty σ H fun y H1 => td σ H1 fun x H2 => ∃ a o, x = .ref a ∧ R0 H2 a y o ∧ Q (.bl (!o.isSome)) H2
noncomputable def IR (td ty tv : TE) : TS := fun D σ H => tv σ H fun v H1 => td σ H1 fun x H2 => ty σ H2 fun y H3 => ∃ a H4, x = .ref a ∧ DPut H3 a y v H4 ∧ D.nx σ H4
section
variable {X : Cx} {o i e value : Expr} {pos pos' tpos : Pos} {td ty tv : TE}
end
section
variable {X : Cx} {pos : Pos}
end
noncomputable def IsD (H : Hp) (a : Addr) : Prop := (∃ kvs, Rd H a (.dK kvs)) ∨ ∃ kvs, Rd H a (.dT kvs)
section
variable {X : Cx} {pins : List (Addr × Obj)} {σ : St} {H : Hp} {s : Shared} {a : Addr} {y d : V} {u r : Value} {o : Option V} {A : Around} {E : Value → Shared → Prop}
end
noncomputable def Ey (td ty tx : TE) : TE := fun σ H Q => td σ H fun x H1 => ∃ a, x = .ref a ∧ IsD H1 a ∧ ty σ H1 fun y H2 => tx σ H2 fun z H3 => ∃ o, R0 H3 a y o ∧ Q (o.getD z) H3
noncomputable def FB (td ty : TE) : TE := fun σ H Q => td σ H fun x H1 => ∃ a, x = .ref a ∧ IsD H1 a ∧ ty σ H1 fun y H2 => ∃ kvs k v, H2 a = some (.dK kvs) ∧ y = kV k ∧ Vu kvs k = some v ∧ Q v (upd H2 a (.dK (dropK kvs k)))
section
variable {X : Cx} {o e f : Expr} {apos cpos : Pos} {td ty tx : TE}
end
section
variable {X : Cx} {pins : List (Addr × Obj)} {σ : St} {H : Hp} {s : Shared} {a : Addr} {kvs : List (Key × V)} {A : Around} {E : Value → Shared → Prop}
end
section
variable {X : Cx} {pins : List (Addr × Obj)} {σ : St} {H : Hp} {s : Shared} {a : Addr} {y : V} {u : Value} {A : Around} {E : Value → Shared → Prop}
end
end L2
namespace Att
open PySem PySem.W PySem.Calls PyProof.Rows
theorem ints_of_wellAll {P : Params} {h : Heap} : ∀ (ns : List Int) (vs : List Value), WellAll P h vs (ns.map WData.int) → IntsAre vs ns := by
 intro ns
 induction ns with
 | nil =>
  intro vs w
  rw [List.map_nil] at w
  cases w
  exact .nil
 | cons n ns ih =>
  intro vs w
  rw [zb] at w
  cases w with
  | cons a b =>
   cases a
   exact .cons _ _ (ih _ b)
theorem script_of {l : OpenLaw} {n : Nat} (hn : l.most = some n) {P : Params} {h : Heap} {args : List WData} {vals : List Value}
  (hpre : l.row.toRowW.claim.pre args = true) (hwl : WellAll P h vals args) :
  ∃ a vs ns, vals = [Value.ref a] ∧ args = [WData.list (ns.map WData.int)] ∧ h.get? a = some { cls := .type "list", data := .seq vs.toArray } ∧ IntsAre vs ns ∧ ns.length ≤ n := by
 have hsh : WShape.hasAll [] args [.list .int] = true := (pre_splitW hpre).1
 have hc : l.pre.holds [] { args := args } = true := (pre_splitW hpre).2
 obtain ⟨d, r, rfl, h1, h2⟩ := hasAllW_cons hsh
 obtain rfl := hasAllW_nil h2
 obtain ⟨xs, rfl, h3⟩ := hasW_list h1
 obtain ⟨ns, rfl⟩ := items_int h3
 have hlen : ns.length ≤ n := by
  unfold OpenLaw.pre at hc
  have h4 : (WTm.not (.lt (.lit (.int (n : Int))) (.len (.arg 0)))).holds [] { args := [.list (ns.map .int)] } = true := by
   have h4 := (holds_andW hc).1
   rw [hn] at h4
   exact h4
  have h5 := condW_of h4 (w_not (w_lt w_lit (w_len_list (w_arg rfl))))
  rw [z6] at h5
  refine Nat.le_of_not_lt fun q => ?_
  have q' : (n : Int) < ((ns.length : Nat) : Int) := by lia
  first
   | (rw [z5 q'] at h5; exact absurd h5 (by decide))
   | (simp at h5; lia)
 cases hwl with
 | cons w1 w2 =>
  cases w2
  cases w1 with
  | list ho hall => exact ⟨_, _, ns, rfl, rfl, ho, ints_of_wellAll ns _ hall, hlen⟩
theorem post_true (l : OpenLaw) (args : List WData) : l.row.toRowW.claim.post args (.bool true) args = true :=
 postW_of (r := l.row.toRowW) (X := (true == true))
  (show WShape.has [] (.bool true) .bool = true by first | rfl | decide | simp [WShape.has, WShape.arms, WShape.armsAll])
  (show (WTm.eq .res (.lit (.bool true))).value [] { args := args, res := some (.bool true), after := args } = some (.bool (true == true)) from w_eq_bool (w_res rfl) w_lit) rfl
theorem attach_call {l : OpenLaw} {n : Nat} {q : Program} {loose : List Str} {XP : (Str → Option Value) → Heap → Prop} {YP : World → Heap → Prop} {d : DefRec}
  (hn : l.most = some n) (hdf : d.params.defaults = [])
  (call : ∀ (w : World) (s₀ s₁ : Shared) (mg mb : Str → Option Value) (fa : Addr) (o : Obj) (pm cd doc : Value) (a : Addr) (vs : List Value) (ns : List Int),
   Ground q loose [] XP w s₀ mg mb s₁.heap → YP w s₁.heap →
   s₁.heap.get? fa = some o → o.data = .func (docDef d.name d.params d.body d.scope pm cd doc) → s₁.heap.CodeRec cd d.name → mg d.name = some (.ref fa) →
   s₁.heap.get? a = some { cls := .type "list", data := .seq vs.toArray } → IntsAre vs ns → ns.length ≤ n → s₁.gens = #[] →
   codeAny (model l.prog w) callerA (.call (.ref fa) ⟨[.ref a], []⟩) (fun r s' => r = .ok (.ret (.bool true)) ∧ OldK s₁.heap s'.heap ∧ s'.os = s₁.os ∧ AllBare s'.gens) s₁) :
  WalkO q loose XP YP l.row.toRowW d [] (fun f vs => PySem.call f vs) := by
 intro w s₀ s₁ mg mb G Y fa o pm cd doc dV kV ho hd hcd hD hmg hg args vals as hpre hlay hrd hwl hlo
 obtain rfl : dV = .none := Dflts.none hD hdf
 obtain rfl : kV = .none := Dflts.noKw hD
 obtain ⟨a, vs, ns, rfl, rfl, hobj, hints, hlen⟩ := script_of hn hpre hwl
 refine enter_call (codeAny_mono (call w s₀ s₁ mg mb fa o pm cd doc a vs ns G Y ho (fd_plain hd) hcd hmg hobj hints hlen hg) fun r s' hq => ?_)
 obtain ⟨rfl, h2, h3, h4⟩ := hq
 exact ⟨.inl ⟨.bool true, .bool true, [], rfl, fun _ => rfl, .bool true, post_true l _, fun _ => ⟨List.Pairwise.nil, fun _ hm => (nomatch hm)⟩⟩, h2, h3, h4⟩
section
variable {prog : Program} {w : World} {A : Around} {E : Value → Shared → Prop} {s : Shared} {K : Frag}
noncomputable def noObjs (h : Heap) : Heap := { h with objs := #[] }
theorem noObjs_get (h : Heap) (b : Addr) : (noObjs h).get? b = none := by
 cases e : (noObjs h).get? b with
 | none => rfl
 | some o => exact absurd (zA e) (Nat.not_lt_zero _)
noncomputable def ledger (h : Heap) (L d : Addr) : List (Addr × Obj) := (List.range h.objs.size).filterMap fun a => if a = L ∨ a = d then none else (h.get? a).map fun o => (a, o)
theorem mem_ledger {h : Heap} {L d a : Addr} {o : Obj} : (a, o) ∈ ledger h L d ↔ a ≠ L ∧ a ≠ d ∧ h.get? a = some o := by
 unfold ledger
 rw [List.mem_filterMap]
 constructor
 ·rintro ⟨b, _, e⟩
  split at e
  ·cases e
  ·rename_i hb
   obtain ⟨o', ho, e'⟩ := za.mp e
   cases e'
   exact ⟨fun q => hb (.inl q), fun q => hb (.inr q), ho⟩
 ·rintro ⟨n1, n2, ho⟩
  refine ⟨a, List.mem_range.mpr (zA ho), ?_⟩
  rw [if_neg (show ¬ (a = L ∨ a = d) from fun q => q.elim n1 n2), ho] <;> rfl
theorem fr_all {h : Heap} {L : Addr} {m : Str → Option Value} (n : h.Ns L m) : Fr (noObjs h) L h m :=
 ⟨n, fun b o e => (by rw [noObjs_get] at e; cases e), zc _⟩
end
end Att
namespace L2
open PySem PySem.Spec PyProof.Rows
theorem M1 : ∀ {vs : List Value} {ns : List Int}, IntsAre vs ns → Ae (ns.map V.int) vs
 | _, _, .nil => .nil
 | _, _, .cons n t h => .cons ⟨t, rfl⟩ (M1 h)
noncomputable def BG (s : Stmt) (j : Nat) : Stmt := match s with
 | .ClassDef _ _ _ body _ _ _ _ _ _ _ => body.getD j (.Pass ⟨0, 0, 0, 0⟩)
 | _ => .Pass ⟨0, 0, 0, 0⟩
noncomputable def Ba (s : Stmt) : Arguments := match s with
 | .FunctionDef _ a _ _ _ _ _ _ _ _ => a
 | _ => { posonlyargs := [], args := [], vararg := none, kwonlyargs := [], kw_defaults := [], kwarg := none, defaults := [] }
noncomputable def BD (s : Stmt) : List Stmt := match s with
 | .FunctionDef _ _ b _ _ _ _ _ _ _ => b
 | _ => []
noncomputable def AF (s : Stmt) : Scope := match s with
 | .FunctionDef _ _ _ _ _ _ sc _ _ _ => sc
 | _ => { kind := .function, names := [], isGenerator := false, isCoroutine := false }
noncomputable abbrev CX0 : CXT := fun _ _ _ _ _ _ => False
noncomputable abbrev E0 : XK := fun _ _ _ => False
theorem Ag {X : Cx} : Cp CX0 X E0 := fun _ _ _ _ _ _ _ h => h.elim
structure Fun (K : W.Frag) (x qual : Str) (st : Stmt) (f : Addr) (fd : FuncData) : Prop where
 ex : ∃ (oc : Value) (od : Option Addr) (kV doc pm : Value) (an : Option Addr) (cdv ct : Value) (osl : Array (Option Value)),
  fd = W.fnOf x qual (Ba st) (BD st) (AF st) .none kV doc pm an cdv ct ∧ K.lookup f = some ⟨oc, od, .func fd, osl⟩ ∧ W.codeIn K cdv qual = true
 kp : W.keepIn K (.ref f) = true
section
variable {P : Program} {w : World} {K : W.Frag} {mg : Str → Option Value} {base : Heap}
theorem Fun.ok {x qual : Str} {st : Stmt} {f : Addr} {fd : FuncData} {N ps : List Str} {k : Nat} {sp : Sp} (F : Fun K x qual st f fd) (S : AL N ps (AF st)) (len : ∀ vs H Q E, sp vs H Q E → vs.length = ps.length)
  (hbody : ∀ (cdv : Value) (A : Around) (outer : List Env) (s : Shared) (H : Hp) (vs : List V) (Q : VK) (E : XK), BY k (A.deeper (envOfC qual (AF st) s.heap.objs.size f cdv)) → sp vs H Q E →
   ∃ t, PSs (A9 CX0 P w K mg base N qual (AF st) f cdv A outer s H E).nox (BD st) t ∧ t { nx := fun _ H' => Q .non H', rt := Q } (start N vs) H) : Aj P w K mg base CX0 (k + 1) f fd ps sp := by
 obtain ⟨oc, od, kV, doc, pm, an, cdv, ct, osl, rfl, lk, hcd⟩ := F.ex
 refine PK lk hcd S len fun A outer s H vs Q E hr hsp => ?_
 obtain ⟨t, h, q⟩ := hbody cdv A outer s H vs Q E hr hsp
 exact ⟨t, h.nox, q⟩
theorem Fun.binds {x qual : Str} {st : Stmt} {f : Addr} {fd : FuncData} {ps : List Str} (F : Fun K x qual st f fd)
  (h : ∀ (kV doc pm : Value) (an : Option Addr) (cdv ct : Value) (us : List Value), us.length = ps.length → bindArgs (W.fnOf x qual (Ba st) (BD st) (AF st) .none kV doc pm an cdv ct) ⟨us, []⟩ = pure (ps.zip us)) : Binds K fd ps [] := by
 obtain ⟨oc, od, kV, doc, pm, an, cdv, ct, osl, rfl, lk, hcd⟩ := F.ex
 exact .all (h kV doc pm an cdv ct)
theorem Jd {x qual : Str} {st : Stmt} {f : Addr} {oc : Value} {od an : Option Addr} {osl : Array (Option Value)} {kV doc pm cdv ct : Value} (l : K.lookup f = some ⟨oc, od, .func (W.fnOf x qual (Ba st) (BD st) (AF st) .none kV doc pm an cdv ct), osl⟩)
  (c : W.codeIn K cdv qual = true) (k : W.keepIn K (.ref f) = true) : Fun K x qual st f (W.fnOf x qual (Ba st) (BD st) (AF st) .none kV doc pm an cdv ct) := ⟨⟨oc, od, kV, doc, pm, an, cdv, ct, osl, rfl, l, c⟩, k⟩
end
theorem Sx {A : Around} {k : Nat} (hr : BY k A) : A.units + 1 < cLine := Nat.lt_of_le_of_lt (Nat.add_le_add_left (by decide : 1 ≤ 64) _) hr.units
section
variable {X : Cx}
theorem pv (i : Nat) {x : Str} {pos : Pos} (hN : X.N[i]? = some x := by rfl) (hv : Vis X.env.scope x := by first | exact Or.inl rfl | exact Or.inr (Or.inl rfl) | exact Or.inr (Or.inr rfl)) (hd : (x == ("__debug__" : Str)) = false := by decide)
  (hcd : (x == ("__classdict__" : Str)) = false := by decide) : PE X (.Name x pos) (Gj i) := TH hN hv hd hcd
end
noncomputable def AI (H H' : Hp) : Prop := ∀ b o, H b = some o → H' b = some o
theorem AI.refl (H : Hp) : AI H H := fun _ _ h => h
theorem AI.trans {H H1 H2 : Hp} (a : AI H H1) (b : AI H1 H2) : AI H H2 := fun c o h => b c o (a c o h)
theorem AI.free {H H' : Hp} (e : AI H H') {l : Addr} (h : H' l = Option.none) : H l = Option.none := by
 cases q : H l with
 | none => rfl
 | some o =>
  rw [e l o q] at h
  cases h
theorem AI.seq {K : W.Frag} {H H' : Hp} {a : Addr} {xs : List V} (e : AI H H') (h : SqL K H a xs) : SqL K H' a xs := by
 rcases h with (h | ⟨o, h⟩) | h
 ·exact .inl (.inl (e _ _ h))
 ·exact .inl (.inr ⟨o, e _ _ h⟩)
 ·exact .inr h
section
variable {X : Cx}
end
section
variable {κ : Type} [DecidableEq κ]
end
theorem Qq : bootBuiltins "abs" = some (.builtin "abs") := by decide +kernel
theorem BP : bootBuiltins "len" = some (.builtin "len") := by decide +kernel
theorem AR : bootBuiltins "isinstance" = some (.builtin "isinstance") := by decide +kernel
theorem CH : bootBuiltins "int" = some (.type "int") := by decide +kernel
theorem R5 : bootBuiltins "list" = some (.type "list") := by decide +kernel
noncomputable def Sm (i : Int) : Prop := i.natAbs < 2 ^ 4000
theorem Sm.of {i : Int} {n : Nat} (h : i.natAbs ≤ n) (hn : n < 2 ^ 4000) : Sm i := Nat.lt_of_le_of_lt h hn
theorem Sm.bits {i : Int} (h : Sm i) : Builtin.Int.intBits i ≤ 2 ^ 20 := by
 unfold Builtin.Int.intBits
 split
 ·exact zc _
 ·have hn : i.natAbs < 2 ^ 4000 := h
  have : i.natAbs.log2 < 4000 := by
   rcases Nat.eq_zero_or_pos i.natAbs with h0 | hp
   ·rw [h0]; decide
   ·exact (Nat.log2_lt (zi hp)).mpr hn
  have h20 : (4000 : Nat) ≤ 2 ^ 20 := by decide
  lia
theorem Sm.log {i : Int} (h : Sm i) : i.natAbs.log2 < 9000 := by
 have hn : i.natAbs < 2 ^ 4000 := h
 rcases Nat.eq_zero_or_pos i.natAbs with h0 | hp
 ·rw [h0]; decide
 ·exact Nat.lt_trans ((Nat.log2_lt (zi hp)).mpr hn) (by decide)
section
variable {X : Cx}
theorem CV : OpR X (binaryOp .Mult) (rI (fun i j => Sm i ∧ Sm j) fun i j => .int (i * j)) := opI fun _ _ _ _ _ _ _ hc q => mul_int q (.of_bits hc.1.bits hc.2.bits)
theorem No : OpR X (binaryOp .FloorDiv) (rI (fun _ j => j ≠ 0 ∧ Sm j) fun i j => .int (i.fdiv j)) := opI fun _ _ _ _ _ _ _ hc q => floordiv_int hc.1 q (.inl (PyProof.noPylong_of_log2 hc.2.log))
end
structure D (K : W.Frag) (mg : Str → Option Value) (x : Str) (st : Stmt) (ps : List Str) (f : Addr) (fd : FuncData) : Prop where
 F : Fun K x x st f fd
 m : mg x = some (.ref f)
 b : Binds K fd ps []
section
variable {X : Cx} {st : Stmt} {rest : List Stmt} {t u : TS}
theorem RO {t u : TS} {D : Hr} {σ : St} {H : Hp} (h : ∀ M : St → Hp → Prop, (∀ σ' H', u D σ' H' → M σ' H') → t { D with nx := M } σ H) : OH t u D σ H := h _ fun _ _ z => z
noncomputable def tCut (t u : TS) : TS := fun D σ H => ∃ M : St → Hp → Prop, t { D with nx := M } σ H ∧ ∀ σ' H', M σ' H' → u D σ' H'
theorem O9 (h1 : PS X st t) (h2 : PSs X rest u) : PSs X (st :: rest) (tCut t u) := by
 intro pins s σ H D I h
 obtain ⟨M, h, hM⟩ := h
 refine wpAny_execs_cons (thn (h1 pins s σ H _ I h) fun f s1 q => ?_)
 cases f with
 | next =>
  obtain ⟨σ', H', I', q⟩ := q
  exact h2 pins s1 σ' H' D I' (hM σ' H' q)
 | ret v => exact q
 | brk => exact q
 | cont => exact q
end
theorem cxK {CX : CXT} {P : Program} {w : World} {K : W.Frag} {mg : Str → Option Value} {base : Heap} {N : List Str} {qual : Str} {scope : Scope} {f : Addr} {cd : Value} {A : Around} {outer : List Env} {s : Shared} {H : Hp} {E : XK} :
 (A9 CX P w K mg base N qual scope f cd A outer s H E).K = K := rfl
theorem JW : Int.natAbs 10 = 10 := rfl
theorem Mp : Int.natAbs 2 = 2 := rfl
theorem A0 {H : Hp} {p : PySem.Addr} {o : HO} (hp : H p = none) : AI H (upd H p o) := fun b u e => by
 rw [AJ (Ak e hp)]; exact e
theorem AI.tup {K : W.Frag} {H H' : Hp} {a : PySem.Addr} {xs : List V} (e : AI H H') (h : SqT K H a xs) : SqT K H' a xs := by
 rcases h with (h | ⟨o, h⟩) | h
 ·exact .inl (.inl (e _ _ h))
 ·exact .inl (.inr ⟨o, e _ _ h⟩)
 ·exact .inr h
section
variable {X : Cx} {es : List Expr} {t : TA} {pos : Pos}
noncomputable def HF (t : TA) : TE := fun σ H Q => t σ H fun xs H1 => xs.length ≤ sizeLine ∧ ∀ p H', H1 p = none → AI H1 H' → H' p = some (.tup xs) → Q (.ref p) H'
noncomputable def Gw (t : TA) : TE := fun σ H Q => t σ H fun xs H1 => xs.length ≤ sizeLine ∧ ∀ p H', H1 p = none → AI H1 H' → H' p = some (.lst xs) → Q (.ref p) H'
theorem An {x1} (h : PA X es t) : PE X (.Tuple es x1 pos) (HF t) := by
 intro pins s σ H Q I hq
 refine wpAny_Tuple_spliced (thn (h pos pins s σ H _ I hq) fun us s1 ⟨xs, H1, I1, r, z, q⟩ => ⟨by rw [← r.length]; exact z, ?_⟩)
 have hf : H1 s1.heap.objs.size = none := I1.hok.fresh (zB _)
 refine ⟨.ref s1.heap.objs.size, upd H1 s1.heap.objs.size (.tup xs), I1.laid (t' := s1.toks) (fun b u e => z7 _ e) (zB _) ?_, rfl, q _ _ hf (A0 hf) AQ⟩
 exact ⟨z, us, r, ⟨_, zM _ rfl, rfl, _, rfl⟩⟩
theorem BZ (h : PA X es t) : PE X (.List es pos) (Gw t) := by
 intro pins s σ H Q I hq
 refine wpAny_List_spliced (thn (h pos pins s σ H _ I hq) fun us s1 ⟨xs, H1, I1, r, z, q⟩ => ⟨by rw [← r.length]; exact z, ?_⟩)
 have hf : H1 s1.heap.objs.size = none := I1.hok.fresh (zB _)
 refine ⟨.ref s1.heap.objs.size, upd H1 s1.heap.objs.size (.lst xs), I1.laid (t' := s1.toks) (fun b u e => z7 _ e) (zB _) ?_, rfl, q _ _ hf (A0 hf) AQ⟩
 exact ⟨z, us, 0, r, zM _ rfl⟩
end
theorem AI.get {H H' : Hp} (s : AI H H') {b : PySem.Addr} {o : HO} (h : H b = some o) : H' b = some o := s b o h
theorem Ix {α : Sort _} {p q : α → Prop} (w : α) (h1 : p w) (h2 : q w) : ∃ x, p x ∧ q x := ⟨w, h1, h2⟩
theorem exOrL {α : Sort _} {p p' q : α → Prop} (w : α) (h1 : p w) (h2 : q w) : ∃ x, (p x ∨ p' x) ∧ q x := ⟨w, .inl h1, h2⟩
theorem exOrR {α : Sort _} {p p' q : α → Prop} (w : α) (h1 : p' w) (h2 : q w) : ∃ x, (p x ∨ p' x) ∧ q x := ⟨w, .inr h1, h2⟩
section
variable {X : Cx}
theorem OpR.weak {f : Value → Value → Sem Value} {r r' : R2} (h : OpR X f r) (m : ∀ x y H Q, r' x y H Q → r x y H Q) : OpR X f r' :=
 fun pins s σ H x y v u Q I rx ry q => h pins s σ H x y v u Q I rx ry (m x y H Q q)
theorem B2.weak {f : Value} {r r' : List V → Hp → VK → Prop} (h : B2 X f r) (m : ∀ xs H Q, r' xs H Q → r xs H Q) : B2 X f r' :=
 fun pins s σ H xs us Q I rx q => h pins s σ H xs us Q I rx (m xs H Q q)
noncomputable def Gx : R2 := fun x y H Q => ∃ l b, x = .ref l ∧ y = .ref b ∧ ∃ xs, H l = some (.lst xs) ∧ ∃ zs, H b = some (.lst zs) ∧ xs.length + zs.length ≤ sizeLine ∧ ∀ p H', H p = none → AI H H' → H' p = some (.lst (xs ++ zs)) → Q (.ref p) H'
theorem SR : OpR X (binaryOp .Add) Gx := UC.weak fun _ _ _ _ ⟨l, b, e1, e2, xs, h1, zs, h2, h3, q⟩ => ⟨l, b, xs, zs, e1, e2, h1, h2, h3, fun p hp => q p _ hp (A0 hp) AQ⟩
noncomputable def C9 (K : W.Frag) : List V → Hp → VK → Prop := fun xs H Q => ∃ p, xs = [.ref p] ∧ ∃ ys, SqL K H p ys ∧ ∀ l H', H l = none → AI H H' → H' l = some (.tup ys) → Q (.ref l) H'
noncomputable def Cc (K : W.Frag) : List V → Hp → VK → Prop := fun xs H Q => ∃ p, xs = [.ref p] ∧ ∃ ys, (SqL K H p ys ∨ SqT K H p ys) ∧ ∀ l H', H l = none → AI H H' → H' l = some (.lst ys) → Q (.ref l) H'
theorem Ow : B2 X (.type "list") (Cc X.K) := ND.weak fun _ _ _ ⟨p, e, ys, h, q⟩ => ⟨p, ys, e, h, fun l hl => q l _ hl (A0 hl) AQ⟩
end
noncomputable def Md (i : Int) : Prop := i.natAbs ≤ 10 ^ 60
theorem Md.sm {i : Int} (h : Md i) : Sm i := Sm.of h (by decide +kernel)
theorem Md.mul {i j : Int} (h : Md i) (g : Md j) : (i * j).natAbs ≤ 10 ^ 120 := by
 rw [Int.natAbs_mul]; exact zL (Nat.mul_le_mul h g) (by decide +kernel)
theorem Md.mulS {i j : Int} (h : Md i) (g : Md j) : Sm (i * j) := Sm.of (h.mul g) (by decide +kernel)
theorem Vm {c A B : Prop} [Decidable c] (hc : ¬ c) (h : B) : if c then A else B := by rw [if_neg hc]; exact h
theorem TX {c A B : Prop} [Decidable c] (hc : c) (h : A) : if c then A else B := by rw [if_pos hc]; exact h
theorem U7 {H H' : Hp} (h : AI H H') : True := trivial
section
variable {X : Cx}
theorem BH : B2 X (.type "int") (fun xs H Q => ∃ k, xs = [.bl k] ∧ Q (.int (if k = true then 1 else 0)) H) := QW.weak fun _ _ _ ⟨k, e, q⟩ => .inr ⟨k, e, by cases k <;> exact q⟩
end
theorem CI {a b : Int} {m n : Nat} (ha : a.natAbs ≤ m) (hb : b.natAbs ≤ n) : (a * b).natAbs ≤ m * n := by
 rw [Int.natAbs_mul]; exact Nat.mul_le_mul ha hb
theorem Cz : Gi .non .non = true := rfl
theorem C7 {j : Int} : Gi .non (.int j) = true := rfl
theorem C4 {i : Int} : Gi (.int i) .non = true := rfl
theorem Cy {j : Bool} : Gi .non (.bl j) = true := rfl
theorem C2 {i : Bool} : Gi (.bl i) .non = true := rfl
theorem DB {j : PySem.Str} : Gi .non (.str j) = true := rfl
theorem C6 {i : PySem.Str} : Gi (.str i) .non = true := rfl
theorem Cb {i : Int} {j : Int} : Gi (.int i) (.int j) = true := rfl
theorem C0 {i : Bool} {j : Bool} : Gi (.bl i) (.bl j) = true := rfl
theorem Ca {i : PySem.Str} {j : PySem.Str} : Gi (.str i) (.str j) = true := rfl
theorem C8 {i : Int} {j : PySem.Str} : Gi (.int i) (.str j) = true := rfl
theorem DC {i : PySem.Str} {j : Int} : Gi (.str i) (.int j) = true := rfl
theorem DE {i : Bool} {j : PySem.Str} : Gi (.bl i) (.str j) = true := rfl
theorem DA {i : PySem.Str} {j : Bool} : Gi (.str i) (.bl j) = true := rfl
end L2
set_option maxHeartbeats 4000000
namespace L2
open PySem PySem.Spec PyProof.Rows
section
variable {prog : Program} {w : World} {A : Around} {R : Result → Shared → Prop} {s : Shared}
theorem J3 {elt target iter : Expr} {ifs : List Expr} {scope : Scope} {pos : Pos} {it acc : Value} {env : Env} (I : Nat → Shared → Prop) {N : Value → Shared → Prop} (hN : N = notedBy (model prog w) A env fun e s' => R (.error e) s')
  (turn : ∀ n s, I n s → wpAny (model prog w) A (pyNext it) (fun r s₁ => match r with
   | none => R (.ok .next) s₁
   | some v => wpAny (model prog w) A (letOwnedTupleGo target it v) (fun _ s₁' => wpAny (model prog w) A (assign target env v) (fun _ s₂ =>
     wpAny (model prog w) A (forIn ifs true fun c r => if r = true then do let ok ← isTrue c env (eval c env); pure (ForInStep.yield ok) else pure (ForInStep.yield r)) (fun ok s₃ =>
      if ok = true then wpAny (model prog w) A (eval elt env) (fun x s₄ => wpAny (model prog w) A (call (.builtin "list.append") [acc, x]) (fun _ s₅ => ∃ m, m < n ∧ I m s₅) N s₄) N s₃
      else ∃ m, m < n ∧ I m s₃) N s₂) N s₁') N s₁) N s)
  (n : Nat) (h : I n s) : codeAny (model prog w) A (.compLoop (.ListComp elt [⟨target, iter, ifs, 0⟩] scope pos) 0 it acc env) R s := by
 subst hN
 refine codeAny_loop rfl I (fun n s hI => ?_) n h
 show wpAny _ A ((compTurn (.ListComp elt [⟨target, iter, ifs, 0⟩] scope pos) 0 it acc env).onRaise (fun x => do noteFrame x env; theTreesLotGoes x)) _ _ s
 refine wpAny_noted ?_
 rw [compTurn_list]
 refine wpAny_bind (wpAny_standAt (wpAny_bind (wpAny_mono (turn n s hI) (fun r s₁ h₁ => ?_) fun _ _ h' => h')))
 cases r with
 | none => exact wpAny_pure h₁
 | some v =>
  refine wpAny_bind (wpAny_mono h₁ (fun _ s₁' h₁' => ?_) fun _ _ h' => h')
  refine wpAny_bind (wpAny_mono h₁' (fun _ s₂ h₂ => wpAny_bind (wpAny_mono h₂ (fun ok s₃ h₃ => ?_) fun _ _ h' => h')) fun _ _ h' => h')
  cases ok with
  | false => exact wpAny_pure ⟨rfl, h₃⟩
  | true =>
   exact wpAny_bind (wpAny_bind (wpAny_mono h₃ (fun x s₄ h₄ => wpAny_bind (wpAny_mono h₄ (fun _ s₅ h₅ => wpAny_pure (wpAny_pure ⟨rfl, h₅⟩)) fun _ _ h' => h')) fun _ _ h' => h'))
end
noncomputable def Ai (X : Cx) (sc : Scope) (cl : List (Str × Addr)) (N : List Str) (C : Addr) (s : Shared) (H : Hp) (ex : List Addr) : Cx :=
 { X with N := N, s₀ := s, H₀ := H, env := compEnvC sc cl C X.env, outer := X.stack, stack := X.stack, ex := ex, fn := fun _ => false, pn := [], xe := fun _ _ => False }
noncomputable def Af (X : Cx) (caps : List Str) : List (Str × Addr) := caps.map fun n => (n, (X.env.cells.lookup n).getD 0)
noncomputable def Ce (σ : St) (ix : List Nat) : St := ix.map fun i => (σ[i]?).join
structure A8 (X : Cx) (sc : Scope) (x : Str) (caps : List Str) (ix : List Nat) : Prop where
 kind : sc.kind = .function
 nocell : ∀ y ∈ sc.names, y.2 ≠ .cell
 names : ∀ y ∈ sc.names, y.2 = .local → sc.names.lookup y.1 = some .local
 free : ∀ y ∈ sc.names, y.2 = .free → y.1 ∈ caps
 hx : sc.names.lookup x = some .local
 nd : (x :: caps).Nodup
 clos : closureFor sc X.env = pure (Af X caps)
 cap : caps.map X.env.kindOf = caps.map fun _ => some NameKind.cell
 rl : (caps.map fun n => (relabel sc X.env).names.lookup n) = caps.map fun _ => some NameKind.cell
 slots : (ix.map fun i => X.N[i]?) = caps.map some
theorem M4 {α β : Type} {f g : α → β} {l : List α} (h : l.map f = l.map g) {a : α} (ha : a ∈ l) : f a = g a := by
 induction l with
 | nil => exact absurd ha (by simp)
 | cons b r ih =>
  rw [zb, zb, zr] at h
  rcases zH.mp ha with rfl | ha
  ·exact h.1
  ·exact ih h.2 ha
theorem IJ {X : Cx} : ∀ {caps : List Str} {n : Str} {c : Addr}, (Af X caps).lookup n = some c → n ∈ caps ∧ c = (X.env.cells.lookup n).getD 0
 | [], _, _, h => by simp [Af] at h
 | a :: r, n, c, h => by
  have h : List.lookup n ((a, (X.env.cells.lookup a).getD 0) :: Af X r) = some c := h
  rw [List.lookup_cons] at h
  cases e : n == a with
  | true =>
   rw [e] at h
   have e' : n = a := by simpa using e
   subst e'
   exact ⟨zQ, (zI h).symm⟩
  | false =>
   rw [e] at h
   obtain ⟨h1, h2⟩ := IJ h
   exact ⟨zC _ h1, h2⟩
theorem JV {X : Cx} : ∀ {caps : List Str} {n : Str}, n ∈ caps → ∃ c, (Af X caps).lookup n = some c
 | [], _, h => absurd h (by simp)
 | a :: r, n, h => by
  show ∃ c, List.lookup n ((a, (X.env.cells.lookup a).getD 0) :: Af X r) = some c
  rw [List.lookup_cons]
  cases e : n == a with
  | true => exact ⟨_, rfl⟩
  | false =>
   have ne : n ≠ a := by simpa using e
   exact JV ((zH.mp h).resolve_left ne)
section
variable {X : Cx} {pins : List (Addr × Obj)} {σ : St} {H : Hp} {s : Shared} {sc : Scope} {x : Str} {caps : List Str} {ix : List Nat}
theorem A8.cell {n : Str} {c : Addr} (S : A8 X sc x caps ix) (ok : X.Ok) (h : (Af X caps).lookup n = some c) : n ∈ caps ∧ X.env.cells.lookup n = some c := by
 obtain ⟨h1, h2⟩ := IJ h
 obtain ⟨c', e⟩ := ok.has n (.inl (M4 S.cap h1))
 refine ⟨h1, ?_⟩
 rw [h2, e]; rfl
theorem A8.isCap (S : A8 X sc x caps ix) {y : Str} (h : (relabel sc X.env).names.lookup y = some .cell ∨ (relabel sc X.env).names.lookup y = some .free) : y ∈ caps := by
 have key : ∀ k, (relabel sc X.env).names.lookup y = some k → k = .cell ∨ k = .free → y ∈ caps := fun k hk hk2 => by
  have hm := PySem.mem_of_lookup hk
  obtain ⟨⟨n, k'⟩, hn, e⟩ := zX.mp (show (y, k) ∈ sc.names.map _ from hm)
  dsimp only at e
  split at e
  ·rename_i hc
   have hk' : k' = .free := by
    simp only [q9, beq_iff_eq] at hc
    exact hc.1.1
   injection e with e1 e2
   subst e1
   exact S.free _ hn hk'
  ·injection e with e1 e2
   subst e1 e2
   rcases hk2 with rfl | rfl
   ·exact absurd rfl (S.nocell _ hn)
   ·exact S.free _ hn rfl
 rcases h with h | h
 ·exact key _ h (.inl rfl)
 ·exact key _ h (.inr rfl)
theorem A8.ok (S : A8 X sc x caps ix) (I : Inv X pins σ H s) {fp : List Addr} {C : Addr} (hC : s.heap.objs.size ≤ C) (hf : ∀ b ∈ fp, Hi X pins H b) (hb : ∀ b ∈ fp, b < s.heap.objs.size) :
  (Ai X sc (Af X caps) (x :: caps) C s H fp).Ok where
 mod := I.ok.mod
 kind := S.kind
 glob := I.ok.glob
 blt := I.ok.blt
 above := hC
 inj := fun y z c h1 h2 => I.ok.inj y z c (S.cell I.ok h1).2 (S.cell I.ok h2).2
 has := fun y hy => JV (S.isCap hy)
 cab := fun _ _ h => absurd h (by intro z; cases z)
 hd := I.ok.hd
 frames := I.ok.frames
 stk := .inl rfl
 exf := fun b hbf => ⟨zP (z9 (hb b hbf) hC), fun y c h => (hf b hbf).2.2.2.2.1 y c (S.cell I.ok h).2⟩
 bs := I.bs
 bsz := zL I.ok.bsz I.sz
 noex := fun b o e hbf => by
  rcases (hf b hbf).2.2.2.1 with z | z
  ·exact I.ok.noex b o e z
  ·exact absurd (z9 (zA (I.ok.bs b o e).1) z) (zf _)
 exfs := fun b hbf hm => by
  rcases zH.mp (I.stkSub b hm) with z | z
  ·exact (hf b hbf).2.1 z
  ·exact (hf b hbf).2.2.1 z
 funs := I.stack
 frf := I.stkFree
theorem Qg (S : A8 X sc x caps ix) : (Ce σ ix).length = caps.length := by
 have := congrArg List.length S.slots
 simpa [Ce] using this
theorem O1 : ∀ {ix : List Nat} {caps : List Str} {N : List Str} {k : Nat} {n : Str}, (ix.map fun i => N[i]?) = caps.map some → caps[k]? = some n → ∃ i, ix[k]? = some i ∧ N[i]? = some n
 | [], [], _, _, _, _, h => by simp at h
 | [], _ :: _, _, _, _, h, _ => by simp at h
 | _ :: _, [], _, _, _, h, _ => by simp at h
 | i :: ix, a :: caps, N, 0, n, h, e => by
  rw [zb, zb, zr] at h
  simp at e; subst e
  exact ⟨i, rfl, h.1⟩
 | i :: ix, a :: caps, N, k + 1, n, h, e => by
  rw [zb, zb, zr] at h
  obtain ⟨j, h1, h2⟩ := O1 (k := k) h.2 (by simpa using e)
  exact ⟨j, by simpa using h1, h2⟩
theorem A8.start (S : A8 X sc x caps ix) (I : Inv X pins σ H s) {fp : List Addr} {C D : Addr} {h' : Heap} {m : Str → Option Value} {tk : Nat} (hf : ∀ b ∈ fp, Hi X pins H b) (hb : ∀ b ∈ fp, b < s.heap.objs.size)
  (hD : s.heap.objs.size ≤ D) (hC : s.heap.objs.size ≤ C) (hDC : D ≠ C) (k : ∀ b o, s.heap.get? b = some o → h'.get? b = some o) (hd : h'.get? D = some { cls := .type "list", data := .seq #[] 0 }) (hn : h'.Ns C m) :
  Inv (Ai X sc (Af X caps) (x :: caps) C s H fp) [] (none :: Ce σ ix) (upd H D (.lst [])) { s with heap := h', toks := tk } where
 ok := S.ok I hC hf hb
 os := rfl
 bare := I.bare
 base := Un.laid k hD (I.hok.fresh hD)
 loc := by
  refine ⟨m, hn, fun i y v h1 h2 _ => ?_⟩
  cases i with
  | zero => simp at h2
  | succ i =>
   have h1 : caps[i]? = some y := by simpa [Ai] using h1
   have h2 : (Ce σ ix)[i]? = some (some v) := by simpa using h2
   obtain ⟨j, e1, e2⟩ := O1 S.slots h1
   have h3 : σ[j]? = some (some v) := by
    unfold Ce at h2
    rw [zG, e1] at h2
    have h2 : (σ[j]?).join = some v := by simpa using h2
    cases q : σ[j]? with
    | none => rw [q] at h2; cases h2
    | some o => rw [q] at h2; cases o with
     | none => cases h2
     | some u => cases h2; rfl
   have hy : y ∈ caps := zT h1
   obtain ⟨m0, hn0, hl0⟩ := I.loc
   obtain ⟨u, r, l⟩ := hl0 j y v e2 h3 (.inr (.inl (M4 S.cap hy)))
   refine ⟨u, r, .inr ⟨.inl (M4 S.rl hy), ?_⟩⟩
   rcases l with ⟨z, _⟩ | ⟨_, c, hc, hcell⟩
   ·have z2 : X.env.kindOf y = some .cell := M4 S.cap hy
    rw [z] at z2; cases z2
   ·obtain ⟨c', hc'⟩ := JV (X := X) hy
    have := (S.cell I.ok hc').2
    rw [hc] at this; cases this
    obtain ⟨o, ho, hdt⟩ := hcell
    exact ⟨c, hc', o, k _ _ ho, hdt⟩
 cell := fun y c h => by
  obtain ⟨v, o, ho, hdt⟩ := I.cell y c (S.cell I.ok h).2
  exact ⟨v, o, k _ _ ho, hdt⟩
 free := by
  show upd H D (.lst []) C = none
  rw [AJ (Ne.symm hDC)]; exact I.hok.fresh hC
 freeC := fun y c h => by
  have h2 := (S.cell I.ok h).2
  obtain ⟨v, o, ho, _⟩ := I.cell y c h2
  rw [AJ (zP (z9 (zA ho) hD))]
  exact I.freeC y c h2
 pin := fun p hp => absurd (show p ∈ ([] : List (Addr × Obj)) from hp) (by simp)
 hok := I.hok.laid k hD ⟨zc _, [], 0, .nil, hd⟩
 len := by
  show (none :: Ce σ ix).length = (x :: caps).length
  rw [zU, zU, Qg S]
theorem A8.back (S : A8 X sc x caps ix) (I : Inv X pins σ H s) {fp : List Addr} {C : Addr} {ps : List (Addr × Obj)} {σ' : St} {H' : Hp} {s' : Shared} {h'' : Heap} (hf : ∀ b ∈ fp, Hi X pins H b) (hC : s.heap.objs.size ≤ C)
  (I' : Inv (Ai X sc (Af X caps) (x :: caps) C s H fp) ps σ' H' s') (hs : Heap.SameBut C s'.heap h'') : Inv X pins σ H' { s' with heap := h'' } := by
 have J : Inv X pins σ H' s' := I.call' (ch := fp) I'.os I'.base I'.hok I'.bare fun b hb => ⟨(hf b hb).2.2.2.1, (hf b hb).2.1, (hf b hb).2.2.2.2.1, (hf b hb).2.2.2.2.2⟩
 refine J.turned (t' := s'.toks) (it := C) (fun b o hb e => (hs.2 b hb).trans e) I'.free ?_ (.inr (zL I.sz hC)) (fun y c h z => ?_) fun p hp z => ?_
 ·exact zi (z9 I.lt hC)
 ·obtain ⟨v, o, ho, _⟩ := I.cell y c h
  exact absurd (z9 (zA ho) (z ▸ hC)) (zf _)
 ·obtain ⟨e, _⟩ := I.pin p hp
  exact absurd (z9 (zA e) (z ▸ hC)) (zf _)
end
noncomputable def PTs (X : Cx) (ifs : List Expr) (tc : TT) : Prop :=
 ∀ (pins : List (Addr × Obj)) (s : Shared) (σ : St) (H : Hp) (Q : Bool → Hp → Prop), Inv X pins σ H s → tc σ H Q →
  wpAny (model X.prog X.w) X.A (forIn ifs true fun c r => if r = true then do let ok ← isTrue c X.env (eval c X.env); pure (ForInStep.yield ok) else pure (ForInStep.yield r)) (TP X pins σ Q) X.xe s
noncomputable def F4 : TT := fun _ H Q => Q true H
theorem Gb {X : Cx} : PTs X [] F4 := fun _ _ _ H _ I h => wpAny_tests_nil ⟨H, I, h⟩
theorem PB {X : Cx} {c : Expr} {t : TT} (h : PT X c t) : PTs X [c] t := fun pins s σ H Q I q => wpAny_tests_one (h pins s σ H Q I q)
noncomputable def F0 (te : TE) (tc : TT) (caps : St) (J : It) (D : Addr) (H1 : Hp) (Q : Hp → Prop) : Prop :=
 ∃ W : Nat → Nat → List V → Hp → Prop, (∃ m, W 0 m [] (upd H1 D (.lst []))) ∧ ∀ i m ys H, W i m ys H →
  (J.stop i H ∧ Q H) ∨ (J.go i H ∧ ∀ v H', J.yld i H v H' → tc (some v :: caps) H' fun b H2 =>
   if b = true then te (some v :: caps) H2 fun y H3 => H3 D = some (.lst ys) ∧ ys.length < sizeLine ∧ ∃ m', m' < m ∧ W (i + 1) m' (ys ++ [y]) (upd H3 D (.lst (ys ++ [y])))
   else ∃ m', m' < m ∧ W (i + 1) m' ys H2)
noncomputable def FR (wi : TI) (te : TE) (tc : TT) (ix : List Nat) : TE := fun σ H Q => wi σ H fun J H1 => ∀ D, H1 D = none → F0 te tc (Ce σ ix) J D H1 fun H' => Q (.ref D) H'
theorem BL {M : Model} {A : Around} {α : Type} {t : Sem α} {Q : α → Shared → Prop} {E : Value → Shared → Prop} {s : Shared} (h : wpAny M A t Q (fun _ _ => False) s) : wpAny M A t Q E s := wpAny_mono h (fun _ _ q => q) fun _ _ z => z.elim
section
variable {X : Cx} {pins : List (Addr × Obj)} {σ : St} {H : Hp} {s : Shared} {sc : Scope} {x : Str} {caps : List Str} {ix : List Nat}
theorem Ko {elt iter : Expr} {px pos : Pos} {ifs : List Expr} {te : TE} {tc : TT} {J : It} {fp : List Addr} {it : Addr} {tn : Nat → Heap → Prop} {QH : Addr → Hp → Prop} {RR : Value → Addr → Result → Shared → Prop} {E : Value → Shared → Prop}
  (hc : X.calm = true) (S : A8 X sc x caps ix) (he : ∀ C s H ex, PE (Ai X sc (Af X caps) (x :: caps) C s H ex) elt te) (ht : ∀ C s H ex, PTs (Ai X sc (Af X caps) (x :: caps) C s H ex) ifs tc)
  (I : Inv X pins σ H s) (T : Nv X.prog X.w X.K (.Name x px) J fp it tn) (st : tn 0 s.heap) (hf : ∀ b ∈ fp, Hi X pins H b) (h : ∀ D, H D = none → F0 te tc (Ce σ ix) J D H (QH D))
  (hRR : ∀ D C (ps : List (Addr × Obj)) σ' H' s', s.heap.objs.size ≤ C → Inv (Ai X sc (Af X caps) (x :: caps) C s H fp) ps σ' H' s' → QH D H' → RR (.ref D) C (.ok .next) s') :
  wpAny (model X.prog X.w) X.A (newList []) (fun acc s₃ => wpAny (model X.prog X.w) X.A (newFunctionEnv sc X.env.globals (Af X caps) [] X.env.qual none .none (some X.env)) (fun cenv s₄ =>
   codeAny (model X.prog X.w) X.A (.compStart (.ListComp elt [⟨.Name x px, iter, ifs, 0⟩] sc pos) 0 (.ref it) acc { cenv with scope := relabel sc X.env }) (RR acc cenv.locals) s₄) E s₃) E s := by
 refine wpAny_newObj_type (wpAny_newFunctionEnv S.nocell (by intro y hy; simp at hy) (fun h₁ hns₁ hsb₁ => ?_) S.kind)
 dsimp only at hns₁ hsb₁ ⊢
 generalize hH2 : s.heap.push { cls := .type "list", dict := none, data := .seq ([] : List Value).toArray } = H2 at hns₁ hsb₁ ⊢
 have hC : H2.objs.size = s.heap.objs.size + 1 := by rw [← hH2, Heap.size_push]
 have hDC : s.heap.objs.size ≠ H2.objs.size := by rw [hC]; exact zP (Nat.lt_succ_self _)
 have hCle : s.heap.objs.size ≤ H2.objs.size := by rw [hC]; exact Nat.le_succ _
 have below : ∀ b, b < s.heap.objs.size → b ≠ H2.objs.size := fun b hb => by rw [hC]; exact zP (Nat.lt_succ_of_lt hb)
 have old : ∀ b o, s.heap.get? b = some o → h₁.get? b = some o := fun b o e => hsb₁.extBut b o (below b (zA e)) (z7 _ (hH2 ▸ z7 _ e))
 have hacc : h₁.get? s.heap.objs.size = some { cls := .type "list", data := .seq #[] 0 } := hsb₁.extBut _ _ hDC (z7 _ (hH2 ▸ zM _ rfl))
 have hb : ∀ b ∈ fp, b < s.heap.objs.size := fun b hbf => by obtain ⟨o, e, _⟩ := T.obj _ _ st b hbf; exact zA e
 have I1 := S.start (tk := s.toks + ([] : List (Str × Value)).length) I hf hb (zB _) hCle hDC old hacc hns₁
 obtain ⟨W, ⟨m0, w0⟩, turn⟩ := h _ (I.hok.fresh (zB _))
 have stat : ∀ {H' : Hp}, (∀ b ∈ fp, H' b = none) → ∀ b ∈ fp, Hi (Ai X sc (Af X caps) (x :: caps) H2.objs.size s H fp) [] H' b := fun {H'} hn b hbf =>
  ⟨hn b hbf, (I1.ok.exf b hbf).1, I1.ok.exfs b hbf, .inl hbf, (I1.ok.exf b hbf).2, fun p hp => absurd (show p ∈ ([] : List (Addr × Obj)) from hp) (by simp)⟩
 have st1 : tn 0 h₁ := T.keep _ _ _ st fun b hbf o e => old b o e
 have fr1 : ∀ b ∈ fp, upd H s.heap.objs.size (.lst []) b = none := fun b hbf => by
  rw [AJ (zP (hb b hbf))]; exact (hf b hbf).1
 have loop : ∀ s₃ : Shared, s₃ = { s with heap := h₁, toks := s.toks + ([] : List (Str × Value)).length } →
   codeAny (model X.prog X.w) X.A (.compLoop (.ListComp elt [⟨.Name x px, iter, ifs, 0⟩] sc pos) 0 (.ref it) (.ref s.heap.objs.size) (compEnvC sc (Af X caps) H2.objs.size X.env))
    (RR (.ref s.heap.objs.size) H2.objs.size) s₃ := by
  rintro s₃ rfl
  refine J3 (fun n s' => ∃ i ys H' ov, Inv (Ai X sc (Af X caps) (x :: caps) H2.objs.size s H fp) [] (ov :: Ce σ ix) H' s' ∧ tn i s'.heap ∧ (∀ b ∈ fp, H' b = none) ∧ W i n ys H') rfl ?_ m0 ⟨0, [], _, none, I1, st1, fr1, w0⟩
  rintro n s3 ⟨i, ys, H3, ov, I3, st3, fr3, w3⟩
  rcases turn i n ys H3 w3 with ⟨stop, q⟩ | ⟨go, step⟩
  ·refine BL (thn (T.done (Ai X sc (Af X caps) (x :: caps) H2.objs.size s H fp) rfl rfl rfl hc i [] s3 _ H3 _ I3 (stat fr3) st3 stop) fun r s4 zq => ?_)
   obtain ⟨hr, I4⟩ := zq
   subst hr
   exact hRR _ _ _ _ _ _ hCle I4 q
  ·refine BL (thn (T.item (Ai X sc (Af X caps) (x :: caps) H2.objs.size s H fp) rfl rfl rfl hc i [] s3 _ H3 _ I3 (stat fr3) st3 go) fun r s4 zq => ?_)
   obtain ⟨u, hr, h4⟩ := zq
   subst hr
   refine BL (thn h4 fun _ s5 zq => ?_)
   obtain ⟨v, H5, I5, r5, y5, st5, fr5⟩ := zq
   have I5' := I5.pinned (stat fr5) (T.obj _ _ st5)
   have hg : PG (Ai X sc (Af X caps) (x :: caps) H2.objs.size s H fp) (.Name x px) (Cw 0) := NX (i := 0) S.nd rfl (.inl (lookup_relabel_local S.hx)) (.inr (lookup_relabel_local S.hx))
   have again : ∀ {s7 : Shared} {H7 : Hp} {ys' : List V}, Inv (Ai X sc (Af X caps) (x :: caps) H2.objs.size s H fp) ([] ++ Hg fp s5.heap) (some v :: Ce σ ix) H7 s7 → (∃ m', m' < n ∧ W (i + 1) m' ys' H7) →
     ∃ m, m < n ∧ ∃ i ys H' ov, Inv (Ai X sc (Af X caps) (x :: caps) H2.objs.size s H fp) [] (ov :: Ce σ ix) H' s7 ∧ tn i s7.heap ∧ (∀ b ∈ fp, H' b = none) ∧ W i m ys H' := fun {s7 H7 ys'} I7 ⟨m', hm, w7⟩ => by
    refine ⟨m', hm, i + 1, ys', H7, some v, I7.unpinned, T.keep _ _ _ st5 fun b hb o e => (I7.pin (b, o) (zO _ (zO _ (B0 hb e)))).1, fun b hb => ?_, w7⟩
    obtain ⟨o, e, d⟩ := T.obj _ _ st5 b hb
    exact (I7.pin (b, o) (zO _ (zO _ (B0 hb e)))).2.1
   refine BL (thn (hg _ s5 _ H5 v u (fun σ' H' => σ' = some v :: Ce σ ix ∧ H' = H5) I5' r5 ⟨rfl, rfl⟩) fun _ s6 zq => ?_)
   obtain ⟨σ6, H6, I6, e6, e6'⟩ := zq
   subst e6 e6'
   refine BL (thn (ht _ _ _ _ _ s6 _ H6 _ I6 (step v H6 y5)) fun ok s7 zq => ?_)
   obtain ⟨H7, I7, q7⟩ := zq
   cases ok with
   | false => exact again I7 (by simpa using q7)
   | true =>
    rw [if_pos rfl] at q7
    rw [if_pos rfl]
    refine BL (thn (he _ _ _ _ _ s7 _ H7 _ I7 q7) fun yv s8 zq => ?_)
    obtain ⟨y, H8, I8, r8, hD8, hz8, q8⟩ := zq
    refine BL (thn (Jj _ s8 _ H8 (.ref s.heap.objs.size) [y] _ [yv] (fun _ H9 => H9 = upd H8 s.heap.objs.size (.lst (ys ++ [y]))) I8 rfl (.cons r8 .nil) ⟨_, _, _, rfl, rfl, hD8, hz8, rfl⟩) fun _ s9 zq => ?_)
    obtain ⟨_, H9, I9, _, e9⟩ := zq
    subst e9
    exact again I9 q8
 exact codeAny_compStart_list (loop _ rfl) (T.self _ 0 _ _ _ st1 (loop _ rfl))
theorem TD (I : Inv X pins σ H s) {C : Addr} (hC : s.heap.objs.size ≤ C) {σ2 : St} {H' : Hp} {s'' : Shared} {h'' : Heap} (J : Inv X pins σ2 H' s'') (hn : H' C = none) (hs : Heap.SameBut C s''.heap h'') : Inv X pins σ2 H' { s'' with heap := h'' } := by
 refine J.turned (t' := s''.toks) (it := C) (fun b o hb e => (hs.2 b hb).trans e) hn ?_ (.inr (zL I.sz hC)) (fun y c h z => ?_) fun p hp z => ?_
 ·exact zi (z9 I.lt hC)
 ·obtain ⟨v, o, ho, _⟩ := I.cell y c h
  exact absurd (z9 (zA ho) (z ▸ hC)) (zf _)
 ·obtain ⟨e, _⟩ := I.pin p hp
  exact absurd (z9 (zA e) (z ▸ hC)) (zf _)
theorem Ib {elt iter : Expr} {px pos : Pos} {ifs : List Expr} {wi : TI} {te : TE} {tc : TT} (hc : X.calm = true) (S : A8 X sc x caps ix) (hi : PI X (.Name x px) iter wi)
  (he : ∀ C s H ex, PE (Ai X sc (Af X caps) (x :: caps) C s H ex) elt te) (ht : ∀ C s H ex, PTs (Ai X sc (Af X caps) (x :: caps) C s H ex) ifs tc)
  (hs : ∀ x, foldedSetIterable iter X.env x = pure x := by intro _; rfl) : PE X (.ListComp elt [⟨.Name x px, iter, ifs, 0⟩] sc pos) (FR wi te tc ix) := by
 intro pins s σ H Q I h
 rw [eval_ListComp]
 refine wpAny_comprehension_free (use := none) rfl hs S.clos S.kind S.names (thn (hi pins s σ H _ I h) fun v s1 h1 => thn h1 fun itv s2 h2 => ?_)
 obtain ⟨it, fp, tn, J, H2, e, I2, T, st2, f2, q⟩ := h2
 subst e
 refine Ko (RR := fun acc C => compPost (model X.prog X.w) X.A X.xe none (EP X pins σ Q) acc C) (QH := fun D H' => Q (.ref D) H') hc S he ht I2 T st2 f2 q ?_
 intro D C ps σ' H' s' hC I' hq
 obtain ⟨m, hn, _⟩ := I'.loc
 exact ⟨m, hn, fun h'' hs => ⟨.ref D, H', S.back I2 f2 hC I' hs, rfl, hq⟩⟩
theorem Ks {i : Nat} {y : Str} {py spos : Pos} {elt iter : Expr} {px pos : Pos} {ifs : List Expr} {wi : TI} {te : TE} {tc : TT} (hc : X.calm = true) (nd : X.N.Nodup) (hy : X.N[i]? = some y) (hl : Loc X.env.scope y) (S : A8 X sc x caps ix) (hi : PI X (.Name x px) iter wi)
  (he : ∀ C s H ex, PE (Ai X sc (Af X caps) (x :: caps) C s H ex) elt te) (ht : ∀ C s H ex, PTs (Ai X sc (Af X caps) (x :: caps) C s H ex) ifs tc)
  (hsw : swapsWith (.ListComp elt [⟨.Name x px, iter, ifs, 0⟩] sc pos) (some (.Name y py)) spos.line X.env = pure true := by rfl)
  (hs : ∀ x, foldedSetIterable iter X.env x = pure x := by intro _; rfl) (hf : X.fn y = true ∨ X.env.scope.names.lookup y = some .local := by first | exact .inl rfl | exact .inr rfl | assumption) :
  PS X (.Assign [.Name y py] (.ListComp elt [⟨.Name x px, iter, ifs, 0⟩] sc pos) spos) (MD (FR wi te tc ix) (Cw i)) := by
 intro pins s σ H D I h
 rw [exec_Assign_Name_used _ _ _ _ hsw]
 refine wpAny_bind (wpAny_standAt (wpAny_bind ?_))
 show wpAny _ X.A (do let _ ← comprehension (.ListComp elt [⟨.Name x px, iter, ifs, 0⟩] sc pos) sc X.env _ (newList []) false (eval iter X.env) (some (assign (.Name y py) X.env))) _ _ s
 refine wpAny_bind (wpAny_mono (wpAny_comprehension_free (use := some (assign (.Name y py) X.env)) (Q := fun _ s' => SP X pins D .next s') rfl hs S.clos S.kind S.names
  (thn (hi pins s σ H _ I h) fun v s1 h1 => thn h1 fun itv s2 h2 => ?_)) (fun _ s' hq => wpAny_pure (wpAny_pure hq)) fun _ _ e => e)
 obtain ⟨it, fp, tn, J, H2, e, I2, T, st2, f2, q⟩ := h2
 subst e
 refine Ko (RR := fun acc C => compPost (model X.prog X.w) X.A X.xe (some (assign (.Name y py) X.env)) (fun _ s' => SP X pins D .next s') acc C) (QH := fun L H' => D.nx (σ.set i (some (.ref L))) H') hc S he ht I2 T st2 f2 q ?_
 intro L C ps σ' H' s' hC I' hq
 show wpAny _ X.A (assign (.Name y py) X.env (.ref L)) _ _ s'
 have J := S.back I2 f2 hC I' (Heap.SameBut.refl ..)
 refine wpAny_assign_Name (MS (v := .ref L) (u := .ref L) J nd hy hl rfl (fun s'' I'' ⟨a, hsb, ha⟩ => ?_) hf)
 obtain ⟨m, hn, _⟩ := I'.loc
 have haC : C ≠ a := by
  rcases ha with z | z
  ·rw [z]; exact zi (z9 I2.lt hC)
  ·obtain ⟨v, o, ho, _⟩ := I2.cell y a z
   exact zi (z9 (zA ho) hC)
 exact ⟨m, hn.sameBut hsb haC, fun h'' hs'' => ⟨_, H', TD I2 hC I'' I'.free hs'', hq⟩⟩
end
noncomputable def K8 (n i : Nat) (ys : List V) (D : Addr) (Pv : Nat → List V → Hp → Prop) (y : V) (H3 : Hp) : Prop :=
 H3 D = some (.lst ys) ∧ ys.length < sizeLine ∧ ∃ m', m' < n - i ∧ m' = n - (i + 1) ∧ i + 1 ≤ n ∧ (ys ++ [y]).length = i + 1 ∧ Pv (i + 1) (ys ++ [y]) (upd H3 D (.lst (ys ++ [y])))
theorem K8.of {n i : Nat} {ys : List V} {D : Addr} {Pv : Nat → List V → Hp → Prop} {y : V} {H3 : Hp} (hn : n ≤ sizeLine) (hi : i < n) (hl : ys.length = i) (h1 : H3 D = some (.lst ys)) (h2 : Pv (i + 1) (ys ++ [y]) (upd H3 D (.lst (ys ++ [y])))) : K8 n i ys D Pv y H3 :=
 ⟨h1, by lia, _, by lia, rfl, hi, by rw [zW, hl]; rfl, h2⟩
theorem Mv {K : W.Frag} {a : Addr} {xs : List V} {te : TE} {caps : St} {D : Addr} {H1 : Hp} {Q : Hp → Prop} (Pv : Nat → List V → Hp → Prop) (h0 : Pv 0 [] (upd H1 D (.lst []))) (hl : ∀ i ys H, i ≤ xs.length → Pv i ys H → SqL K H a xs)
  (hs : ∀ i x ys H, xs[i]? = some x → ys.length = i → Pv i ys H → te (some x :: caps) H (K8 xs.length i ys D Pv))
  (hd : ∀ ys H, ys.length = xs.length → Pv xs.length ys H → Q H) : F0 te F4 caps (Itl K a) D H1 Q := by
 refine ⟨fun i m ys H => m = xs.length - i ∧ i ≤ xs.length ∧ ys.length = i ∧ Pv i ys H, ⟨xs.length, rfl, zc _, rfl, h0⟩, ?_⟩
 rintro i m ys H ⟨rfl, hi, hy, p⟩
 have q := hl i ys H hi p
 by_cases hlt : i < xs.length
 ·refine .inr ⟨⟨xs, xs[i], q, by simp [hlt]⟩, fun v H' y => ?_⟩
  obtain ⟨e, y⟩ := y
  subst e
  unfold F4
  dsimp only
  rw [if_pos rfl]
  exact hs i v ys _ (y xs q) hy p
 ·have e : i = xs.length := by lia
  subst e
  exact .inl ⟨⟨xs, q, by simp⟩, hd ys H hy p⟩
theorem C3 {K : W.Frag} {a : Addr} {xs : List V} {te : TE} {tc : TT} {caps : St} {D : Addr} {H1 : Hp} {Q : Hp → Prop} (Pv : Nat → List V → Hp → Prop) (h0 : Pv 0 [] (upd H1 D (.lst []))) (hl : ∀ i ys H, i ≤ xs.length → Pv i ys H → SqL K H a xs)
  (hs : ∀ i x ys H, xs[i]? = some x → Pv i ys H → tc (some x :: caps) H fun b H2 =>
   if b = true then te (some x :: caps) H2 fun y H3 => H3 D = some (.lst ys) ∧ ys.length < sizeLine ∧ ∃ m', m' < xs.length - i ∧ m' = xs.length - (i + 1) ∧ i + 1 ≤ xs.length ∧ Pv (i + 1) (ys ++ [y]) (upd H3 D (.lst (ys ++ [y])))
   else ∃ m', m' < xs.length - i ∧ m' = xs.length - (i + 1) ∧ i + 1 ≤ xs.length ∧ Pv (i + 1) ys H2)
  (hd : ∀ ys H, Pv xs.length ys H → Q H) : F0 te tc caps (Itl K a) D H1 Q := by
 refine ⟨fun i m ys H => m = xs.length - i ∧ i ≤ xs.length ∧ Pv i ys H, ⟨xs.length, rfl, zc _, h0⟩, ?_⟩
 rintro i m ys H ⟨rfl, hi, p⟩
 have q := hl i ys H hi p
 by_cases hlt : i < xs.length
 ·refine .inr ⟨⟨xs, xs[i], q, by simp [hlt]⟩, fun v H' y => ?_⟩
  obtain ⟨e, y⟩ := y
  subst e
  exact hs i v ys _ (y xs q) p
 ·have e : i = xs.length := by lia
  subst e
  exact .inl ⟨⟨xs, q, by simp⟩, hd ys H p⟩
theorem AI.updFresh {H H3 : Hp} {D : Addr} {o : HO} (s : AI H H3) (hD : H D = none) : AI H (L2.upd H3 D o) := fun b u e => by
 rw [AJ (Ak e hD)]; exact s b u e
open PySem.W
noncomputable def KOk (n : Nat) (lt : Nat → Nat → Bool) {α : Type} : KasT α → (α → Prop) → Prop
 | .ret a, Q => Q a
 | .ask i j k, Q => i < n ∧ j < n ∧ KOk n lt (k (lt i j)) Q
theorem KOk.bind {n : Nat} {lt : Nat → Nat → Bool} {α β : Type} {f : α → KasT β} {Q : β → Prop} : ∀ {t : KasT α}, KOk n lt t (fun a => KOk n lt (f a) Q) → KOk n lt (t.bind f) Q
 | .ret _, h => h
 | .ask _ _ k, h => ⟨h.1, h.2.1, KOk.bind (t := k _) h.2.2⟩
theorem KOk.mono {n : Nat} {lt : Nat → Nat → Bool} {α : Type} {Q Q' : α → Prop} (hq : ∀ a, Q a → Q' a) : ∀ {t : KasT α}, KOk n lt t Q → KOk n lt t Q'
 | .ret _, h => hq _ h
 | .ask _ _ k, h => ⟨h.1, h.2.1, KOk.mono hq (t := k _) h.2.2⟩
theorem KOk.wp {n : Nat} {lt : Nat → Nat → Bool} {α : Type} {cmp : Nat → Nat → (Bool → Shared → Prop) → Shared → Prop} {Q : α → Shared → Prop} {s : Shared} (hc : ∀ i j C, i < n → j < n → C (lt i j) s → cmp i j C s) : ∀ {t : KasT α}, KOk n lt t (fun a => Q a s) → t.kasWp cmp Q s
 | .ret _, h => h
 | .ask i j k, h => hc i j _ h.1 h.2.1 (KOk.wp hc (t := k _) h.2.2)
structure STO (n : Nat) (lt : Nat → Nat → Bool) : Prop where
 tri : ∀ i j, i < n → j < n → i ≠ j → lt i j = true ∨ lt j i = true
 asym : ∀ i j, lt i j = true → lt j i = false
 trans : ∀ i j k, lt i j = true → lt j k = true → lt i k = true
section
variable {n : Nat} {lt : Nat → Nat → Bool} {p : Array Nat}
noncomputable def at0 (p : Array Nat) (i : Nat) : Nat := p.getD i 0
structure PR (n : Nat) (p : Array Nat) : Prop where
 pm : p.Perm (List.range n).toArray
theorem PR.size (h : PR n p) : p.size = n := by simpa using h.pm.size_eq
theorem PR.bd (h : PR n p) {i : Nat} (hi : i < n) : at0 p i < n := by
 have hs := h.size
 have hm : p[i]'(by lia) ∈ p := Array.getElem_mem _
 have := (h.pm.mem_iff).mp hm
 have e : at0 p i = p[i]'(by lia) := by unfold at0; rw [zS, zt (by lia)]; rfl
 rw [e]
 simpa using this
theorem PR.inj (h : PR n p) {i j : Nat} (hi : i < n) (hj : j < n) (e : at0 p i = at0 p j) : i = j := by
 have hs := h.size
 have hnd : p.toList.Nodup := by
  have hp : p.toList.Perm (List.range n) := by simpa using Array.perm_iff_toList_perm.mp h.pm
  exact hp.nodup_iff.mpr List.nodup_range
 have ei : at0 p i = p.toList[i]'(by simpa using (by lia : i < p.size)) := by unfold at0; rw [zS, zt (by lia)]; simp
 have ej : at0 p j = p.toList[j]'(by simpa using (by lia : j < p.size)) := by unfold at0; rw [zS, zt (by lia)]; simp
 rw [ei, ej] at e
 exact (List.getElem_inj hnd).mp e
noncomputable def Srt (lt : Nat → Nat → Bool) (p : Array Nat) (k : Nat) : Prop := ∀ i, i + 1 < k → lt (at0 p i) (at0 p (i + 1)) = true
noncomputable def Dsc (lt : Nat → Nat → Bool) (p : Array Nat) (k : Nat) : Prop := ∀ i, i + 1 < k → lt (at0 p (i + 1)) (at0 p i) = true
theorem Srt.all (S : STO n lt) {k : Nat} (h : Srt lt p k) : ∀ {i j : Nat}, i < j → j < k → lt (at0 p i) (at0 p j) = true := by
 intro i j hij hj
 induction j with
 | zero => lia
 | succ j ih =>
  by_cases e : i = j
  ·subst e; exact h i hj
  ·exact S.trans _ _ _ (ih (by lia) (by lia)) (h j hj)
theorem Ol (S : STO n lt) (hp : PR n p) : ∀ (f a : Nat), 1 ≤ a → a + f ≤ n → Srt lt p a → KOk n lt (kas_asc p f a) (fun m => a ≤ m ∧ m ≤ a + f ∧ Srt lt p m ∧ (m < a + f → lt (at0 p m) (at0 p (m - 1)) = true))
 | 0, a, h1, h2, hs => ⟨zB _, zB _, hs, fun h => by lia⟩
 | f + 1, a, h1, h2, hs => by
  refine ⟨hp.bd (i := a) (by lia), hp.bd (i := a - 1) (by lia), ?_⟩
  cases c : lt (p.getD a 0) (p.getD (a - 1) 0) with
  | true => exact ⟨zB _, by lia, hs, fun _ => c⟩
  | false =>
   have hs' : Srt lt p (a + 1) := fun i hi => by
    by_cases e : i + 1 = a
    ·have e' : i = a - 1 := by lia
     subst e'
     rcases S.tri (at0 p (a - 1)) (at0 p a) (hp.bd (by lia)) (hp.bd (by lia)) (fun z => by have := hp.inj (by lia) (by lia) z; lia) with z | z
     ·rw [show a - 1 + 1 = a by lia]; exact z
     ·have z' : lt (p.getD a 0) (p.getD (a - 1) 0) = true := z
      rw [c] at z'; cases z'
    ·exact hs i (by lia)
   refine KOk.mono (fun m hm => ?_) (Ol S hp f (a + 1) (by lia) (by lia) hs')
   exact ⟨by lia, by lia, hm.2.2.1, fun h => hm.2.2.2 (by lia)⟩
theorem Pc (S : STO n lt) (hp : PR n p) : ∀ (f a : Nat), 1 ≤ a → a + f ≤ n → Dsc lt p a → KOk n lt (kas_desc f p a 0) (fun r => r.1 = p ∧ r.2.2 = 0 ∧ a ≤ r.2.1 ∧ r.2.1 ≤ a + f ∧ Dsc lt p r.2.1)
 | 0, a, h1, h2, hs => ⟨rfl, rfl, zB _, zB _, hs⟩
 | f + 1, a, h1, h2, hs => by
  refine ⟨hp.bd (i := a) (by lia), hp.bd (i := a - 1) (by lia), ?_⟩
  cases c : lt (p.getD a 0) (p.getD (a - 1) 0) with
  | true =>
   dsimp only
   rw [if_pos rfl, if_neg (by lia)]
   have hs' : Dsc lt p (a + 1) := fun i hi => by
    by_cases e : i + 1 = a
    ·have e' : i = a - 1 := by lia
     subst e'
     rw [show a - 1 + 1 = a by lia]; exact c
    ·exact hs i (by lia)
   refine KOk.mono (fun m hm => ?_) (Pc S hp f (a + 1) (by lia) (by lia) hs')
   exact ⟨hm.1, hm.2.1, by lia, by lia, hm.2.2.2.2⟩
  | false =>
   dsimp only
   rw [if_neg (by simp)]
   refine ⟨hp.bd (i := a - 1) (by lia), hp.bd (i := a) (by lia), ?_⟩
   have d : lt (p.getD (a - 1) 0) (p.getD a 0) = true := by
    rcases S.tri (at0 p (a - 1)) (at0 p a) (hp.bd (by lia)) (hp.bd (by lia)) (fun z => by have := hp.inj (by lia) (by lia) z; lia) with z | z
    ·exact z
    ·have z' : lt (p.getD a 0) (p.getD (a - 1) 0) = true := z
     rw [c] at z'; cases z'
   rw [d]
   dsimp only
   rw [if_pos rfl]
   exact ⟨rfl, rfl, zB _, Nat.le_add_right _ _, hs⟩
theorem Qu (hp : PR n p) {m k : Nat} (hm : m ≤ n) (hk : k < m) : at0 (kas_rev p 0 m) k = at0 p (m - 1 - k) := by
 have hs := hp.size
 unfold at0 kas_rev
 rw [zS, zS, getElem?_mirror_all (by lia), if_pos ⟨by lia, hk⟩]
 rw [show 0 + m - 1 - k = m - 1 - k by lia]
theorem Va (S : STO n lt) (hp : PR n p) {m : Nat} (hm : m ≤ n) (h : Dsc lt p m) : PR n (kas_rev p 0 m) ∧ Srt lt (kas_rev p 0 m) m := by
 refine ⟨⟨(mirror_perm ..).trans hp.pm⟩, fun i hi => ?_⟩
 rw [Qu hp hm (by lia), Qu hp hm (by lia)]
 have := h (m - 1 - (i + 1)) (by lia)
 rw [show m - 1 - (i + 1) + 1 = m - 1 - i by lia] at this
 exact this
theorem Qb (S : STO n lt) (hp : PR n p) {m : Nat} (h1 : 1 ≤ m) (hm : m ≤ n) (h : Dsc lt p m) : KOk n lt (kas_tail3 m n p) (fun r => PR n r.2 ∧ r.1 ≤ n ∧ 1 ≤ r.1 ∧ Srt lt r.2 r.1) := by
 obtain ⟨hp', hs⟩ := Va S hp hm h
 refine KOk.bind (KOk.mono (fun k hk => ?_) (Ol S hp' (n - m) m h1 (by lia) hs))
 exact ⟨hp', by lia, by lia, hk.2.2.1⟩
theorem Nd (S : STO n lt) (hp : PR n p) (h2 : 2 ≤ n) (h : lt (at0 p 1) (at0 p 0) = true) : KOk n lt (kas_descPart 1 n p) (fun r => PR n r.2 ∧ r.1 ≤ n ∧ 1 ≤ r.1 ∧ Srt lt r.2 r.1) := by
 have hs : Dsc lt p 2 := fun i hi => by
  have e : i = 0 := by lia
  subst e; exact h
 refine KOk.bind (KOk.mono (fun r hr => ?_) (Pc S hp (n - (1 + 1)) (1 + 1) (by lia) (by lia) hs))
 obtain ⟨e1, e2, h3, h4, h5⟩ := hr
 rw [e2, if_neg (by lia), e1]
 exact Qb S hp (by lia) (by lia) h5
theorem RM (S : STO n lt) (hp : PR n p) (h2 : 2 ≤ n) : KOk n lt (kas_count n p) (fun r => PR n r.2 ∧ r.1 ≤ n ∧ 1 ≤ r.1 ∧ Srt lt r.2 r.1) := by
 refine KOk.bind (KOk.mono (fun m hm => ?_) (Ol S hp (n - 1) 1 (zB _) (by lia) (fun i hi => by lia)))
 obtain ⟨m1, m2, hs, hstop⟩ := hm
 by_cases e : m = n
 ·rw [if_pos (by simp [e])]
  exact ⟨hp, by lia, m1, hs⟩
 ·rw [if_neg (by simp [e])]
  by_cases e1 : m > 1
  ·rw [if_pos e1]
   refine ⟨hp.bd (i := 0) (by lia), hp.bd (i := m - 1) (by lia), ?_⟩
   have c : lt (p.getD 0 0) (p.getD (m - 1) 0) = true := Srt.all S hs (i := 0) (j := m - 1) (by lia) (by lia)
   rw [c]
   dsimp only
   rw [if_pos rfl]
   exact ⟨hp, by lia, m1, hs⟩
  ·rw [if_neg e1]
   have e2 : m = 1 := by lia
   subst e2
   exact Nd S hp h2 (hstop (by lia))
theorem Ke (S : STO n lt) (hp : PR n p) {k : Nat} (hk : k < n) (hs : Srt lt p k) : ∀ (f l r : Nat), r - l ≤ f → l ≤ r → r ≤ k → (∀ i, i < l → lt (at0 p i) (at0 p k) = true) → (∀ i, r ≤ i → i < k → lt (at0 p k) (at0 p i) = true) →
  KOk n lt (kas_place p k f l r) (fun l => l ≤ k ∧ (∀ i, i < l → lt (at0 p i) (at0 p k) = true) ∧ ∀ i, l ≤ i → i < k → lt (at0 p k) (at0 p i) = true)
 | 0, l, r, h1, h2, h3, h4, h5 => ⟨by lia, h4, fun i hi hik => h5 i (by lia) hik⟩
 | f + 1, l, r, h1, h2, h3, h4, h5 => by
  unfold kas_place
  by_cases e : l ≥ r
  ·rw [if_pos e]
   exact ⟨by lia, h4, fun i hi hik => h5 i (by lia) hik⟩
  ·rw [if_neg e]
   refine ⟨hp.bd (i := k) hk, hp.bd (i := (l + r) / 2) (by lia), ?_⟩
   have hmid : (l + r) / 2 < r ∧ l ≤ (l + r) / 2 := by lia
   cases c : lt (p.getD k 0) (p.getD ((l + r) / 2) 0) with
   | true =>
    dsimp only
    rw [if_pos rfl]
    refine Ke S hp hk hs f l ((l + r) / 2) (by lia) (by lia) (by lia) h4 fun i hi hik => ?_
    by_cases e2 : i = (l + r) / 2
    ·subst e2; exact c
    ·exact S.trans _ _ _ c (Srt.all S hs (by lia) hik)
   | false =>
    dsimp only
    rw [if_neg (by simp)]
    have d : lt (at0 p ((l + r) / 2)) (at0 p k) = true := by
     rcases S.tri (at0 p ((l + r) / 2)) (at0 p k) (hp.bd (by lia)) (hp.bd hk) (fun z => by have := hp.inj (by lia) hk z; lia) with z | z
     ·exact z
     ·have z' : lt (p.getD k 0) (p.getD ((l + r) / 2) 0) = true := z
      rw [c] at z'; cases z'
    refine Ke S hp hk hs f ((l + r) / 2 + 1) r (by lia) (by lia) h3 (fun i hi => ?_) h5
    by_cases e2 : i = (l + r) / 2
    ·subst e2; exact d
    ·exact S.trans _ _ _ (Srt.all S hs (i := i) (j := (l + r) / 2) (by lia) (by lia)) d
theorem Mq (hp : PR n p) {k l j : Nat} (hk : k < n) (hl : l ≤ k) : at0 (bubble p k (k - l)) j = if j = l then at0 p k else if l < j ∧ j ≤ k then at0 p (j - 1) else at0 p j := by
 have hs := hp.size
 unfold at0
 rw [zS, getElem?_bubble (by lia) (k - l) (by lia) j, show k - (k - l) = l by lia]
 repeat' split
 all_goals rw [zS]
theorem RA (S : STO n lt) : ∀ (f k : Nat) (p : Array Nat), PR n p → k + f = n → Srt lt p k → KOk n lt (kas_bin f p k) (fun q => PR n q ∧ Srt lt q n)
 | 0, k, p, hp, hk, hs => by
  have e : k = n := by lia
  subst e
  exact ⟨hp, hs⟩
 | f + 1, k, p, hp, hk, hs => by
  refine KOk.bind (KOk.mono (fun l hl => ?_) (Ke S hp (by lia) hs k 0 k (by lia) (by lia) (zB _) (fun i hi => by lia) (fun i h1 h2 => by lia)))
  obtain ⟨h1, h2, h3⟩ := hl
  refine RA S f (k + 1) _ ⟨(bubble_perm ..).trans hp.pm⟩ (by lia) fun i hi => ?_
  rw [Mq hp (by lia) h1, Mq hp (by lia) h1]
  by_cases c1 : i + 1 < l
  ·rw [if_neg (by lia), if_neg (by lia), if_neg (by lia), if_neg (by lia)]
   exact hs i (by lia)
  ·by_cases c2 : i + 1 = l
   ·rw [if_neg (by lia), if_neg (by lia), if_pos c2]
    exact h2 i (by lia)
   ·by_cases c3 : i = l
    ·rw [if_pos c3, if_neg (by lia), if_pos (by lia), show i + 1 - 1 = i by lia]
     exact h3 i (by lia) (by lia)
    ·rw [if_neg c3, if_pos (by lia), if_neg (by lia), if_pos (by lia), show i + 1 - 1 = i by lia]
     have := hs (i - 1) (by lia)
     rw [show i - 1 + 1 = i by lia] at this
     exact this
theorem R1 (S : STO n lt) (h2 : 2 ≤ n) : KOk n lt (kas_sort n) (fun q => PR n q ∧ Srt lt q n) := by
 refine KOk.bind (KOk.mono (fun r hr => ?_) (RM S ⟨Array.Perm.refl _⟩ h2))
 obtain ⟨h1, h3, h4, h5⟩ := hr
 by_cases e : r.1 < n
 ·rw [if_pos e, show max r.1 1 = r.1 by lia]
  exact RA S _ _ _ h1 (by lia) h5
 ·rw [if_neg e]
  exact ⟨h1, by have e2 : r.1 = n := by lia
                rw [← e2]; exact h5⟩
end
section
variable {prog : Program} {w : World} {A : Around} {E : Value → Shared → Prop} {s : Shared}
noncomputable def Df (vs : List Value) (p : Array Nat) : List Value := p.toList.map fun i => vs.getD i Value.none
theorem QN {vs : List Value} {p : Array Nat} (hp : PR vs.length p) : (Df vs p).length = vs.length := by
 unfold Df; rw [z6, Array.length_toList, hp.size]
theorem Jy {vs : List Value} (h : vs.length < 2) : Df vs (List.range vs.length).toArray = vs := by
 cases vs with
 | nil => rfl
 | cons a r =>
  cases r with
  | nil => rfl
  | cons b q => simp only [zU] at h; lia
theorem Si (vs : List Value) : (vs.toArray.zip vs.toArray).map (·.2) = vs.toArray := by
 apply Array.toList_inj.mp
 rw [Array.toList_map, Array.toList_zip]
 exact List.map_snd_zip (zB _)
theorem RJ {a : Addr} {vs : List Value} {n : Nat} {lt : Nat → Nat → Bool} {P : PySem.Fin → Shared → Prop} (ho : s.heap.get? a = some (seqObj "list" vs.toArray n)) (S : STO vs.length lt) (h64 : vs.length < 64)
  (hc : 2 ≤ vs.length → ∀ h' : Heap, (∀ b o, b ≠ a → s.heap.get? b = some o → h'.get? b = some o) → ∃ κ : SortKind,
   (∀ (R : SortKind → Shared → Prop), R κ { s with heap := h' } → wpAny (model prog w) A (keyKind' vs.toArray) R (fun _ _ => False) { s with heap := h' }) ∧
   ∀ i j (C : Bool → Shared → Prop), i < vs.length → j < vs.length → C (lt i j) { s with heap := h' } → wpAny (model prog w) A (keyLt' κ (vs.getD i Value.none) (vs.getD j Value.none)) C (fun _ _ => False) { s with heap := h' })
  (h : ∀ (h' : Heap) (p : Array Nat) (c : Nat), (∀ b o, b ≠ a → s.heap.get? b = some o → h'.get? b = some o) → h'.get? a = some (seqObj "list" (Df vs p).toArray c) → PR vs.length p → Srt lt p vs.length → P (.done (.ret .none)) { s with heap := h' }) :
  wpAny (model prog w) A (Builtin.«list.sort» ⟨[.ref a], []⟩) P E s := by
 have ha : a < s.heap.objs.size := zA ho
 have s1 := Heap.SameBut.update s.heap a (Obj.mapSeq fun _ => (#[] : Array Value))
 obtain ⟨e1, ho1⟩ : ∃ e1, (s.heap.update a (Obj.mapSeq fun _ => (#[] : Array Value))).get? a = some (seqObj "list" #[] e1) := ⟨_, get?_update_seq ho fun _ => #[]⟩
 rw [list_sort_plain]
 refine wpAny_bind (listItems_at ho rfl ?_)
 refine wpAny_bind (listUpdate_at ho rfl ?_ (by rw [zJ, sizeLine_eq]; lia) (zc _))
 refine wpAny_bind (seqEpoch_at ho1 rfl ?_)
 refine wpAny_bind (wpAny_newTuple ?_ (by show vs.length ≤ _; rw [sizeLine_eq]; lia))
 refine wpAny_bind (wpAny_newList ?_ (zc _))
 refine wpAny_holding ?_
 generalize hH : ((s.heap.update a (Obj.mapSeq fun _ => (#[] : Array Value))).push (seqObj "tuple" vs.toArray 0)).push (seqObj "list" #[] 0) = H3
 show wpAny (model prog w) A _ P E { s with heap := H3 }
 dsimp only
 have keep3 : ∀ b o, b ≠ a → s.heap.get? b = some o → H3.get? b = some o := fun b o hb e => by
  rw [← hH]; exact z7 _ (z7 _ ((s1.2 b hb).trans e))
 have at3 : H3.get? a = some (seqObj "list" #[] e1) := by rw [← hH]; exact z7 _ (z7 _ ho1)
 have fin : ∀ (p : Array Nat), PR vs.length p → Srt lt p vs.length → P (.done (.ret .none)) { s with heap := H3.update a (Obj.mapSeq fun _ => (Df vs p).toArray) } := fun p hp hs => by
  obtain ⟨c2, hc2⟩ : ∃ c2, (H3.update a (Obj.mapSeq fun _ => (Df vs p).toArray)).get? a = some (seqObj "list" (Df vs p).toArray c2) := ⟨_, get?_update_seq at3 fun _ => (Df vs p).toArray⟩
  exact h _ p c2 (fun b o hb e => ((Heap.SameBut.update H3 a _).2 b hb).trans (keep3 b o hb e)) hc2 hp hs
 by_cases h2 : vs.toArray.size < 2
 ·rw [if_pos h2, if_pos h2]
  have hl2 : vs.length < 2 := by simpa using h2
  refine wpAny_bind (wpAny_pure ?_)
  rw [StateT.run_pure]
  refine wpAny_bind (wpAny_pure ?_)
  dsimp only
  refine wpAny_bind (seqEpoch_at at3 rfl ?_)
  have ez : ((vs.toArray.zip vs.toArray).map (·.2)) = (Df vs (List.range vs.length).toArray).toArray := by
   rw [Jy hl2]
   exact Si vs
  show wpAny _ _ (Builtin.List.listUpdate (.ref a) (fun _ => (vs.toArray.zip vs.toArray).map (·.2)) >>= _) _ _ _
  rw [ez]
  refine wpAny_bind (listUpdate_at at3 rfl ?_ (zc _) (by show (Df vs (List.range vs.length).toArray).toArray.size ≤ _; rw [Jy hl2, zJ, sizeLine_eq]; lia))
  simp only [bne_self_eq_false, zk, if_false]
  exact wpAny_pure (fin _ ⟨Array.Perm.refl _⟩ fun i hi => by lia)
 ·rw [if_neg h2, if_neg h2]
  have hl2 : 2 ≤ vs.length := by simpa using h2
  obtain ⟨κ, k1, k2⟩ := hc hl2 H3 keep3
  refine wpAny_bind (wpAny_mono (k1 (fun κ' s' => κ' = κ ∧ s' = { s with heap := H3 }) ⟨rfl, rfl⟩) ?_ fun _ _ x => x.elim)
  rintro κ' s' ⟨rfl, rfl⟩
  refine wpAny_bind (wpAny_mono (kat_run (Q := fun st' s' => ∃ p : Array Nat, arrOf st' = p.map (kas_item (vs.toArray.zip vs.toArray)) ∧ failedOf st' = none ∧ PR vs.length p ∧ Srt lt p vs.length ∧ s' = { s with heap := H3 })
   (G := fun p s' => PR vs.length p ∧ Srt lt p vs.length ∧ s' = { s with heap := H3 }) rfl hl2 h64 (fun p' st' s' a1 a2 a3 a4 => ⟨p', a2, a3, a4⟩)
   (KOk.wp (fun i j C hi hj q => k2 i j C hi hj q) (KOk.mono (fun q hq => ⟨hq.1, hq.2, rfl⟩) (R1 S hl2)))) ?_ fun _ _ e => e)
  rintro ⟨⟨⟩, st'⟩ s' ⟨p, har, hf, hp, hs, rfl⟩
  dsimp only
  refine wpAny_bind (seqEpoch_at at3 rfl ?_)
  have hout : (arrOf st').map (·.2) = (Df vs p).toArray := kat_snds rfl har
  rw [hout]
  refine wpAny_bind (listUpdate_at at3 rfl ?_ (zc _) (by show (Df vs p).toArray.size ≤ _; rw [zJ, QN hp, sizeLine_eq]; lia))
  rw [hf]
  simp only [bne_self_eq_false, zk, if_false]
  exact wpAny_pure (fin p hp hs)
theorem QK {l : Addr} {vs : List Value} {lt : Nat → Nat → Bool} {Q : Value → Shared → Prop} (hl : s.heap.IsList l vs.toArray) (S : STO vs.length lt) (h64 : vs.length < 64)
  (hc : 2 ≤ vs.length → ∀ h' : Heap, (∀ b o, s.heap.get? b = some o → h'.get? b = some o) → ∃ κ : SortKind,
   (∀ (R : SortKind → Shared → Prop), R κ { s with heap := h' } → wpAny (model prog w) A.in1.in1 (keyKind' vs.toArray) R (fun _ _ => False) { s with heap := h' }) ∧
   ∀ i j (C : Bool → Shared → Prop), i < vs.length → j < vs.length → C (lt i j) { s with heap := h' } → wpAny (model prog w) A.in1.in1 (keyLt' κ (vs.getD i Value.none) (vs.getD j Value.none)) C (fun _ _ => False) { s with heap := h' })
  (h : ∀ (D : Addr) (h' : Heap) (p : Array Nat) (c : Nat), s.heap.objs.size ≤ D → (∀ b o, s.heap.get? b = some o → h'.get? b = some o) → h'.get? D = some (seqObj "list" (Df vs p).toArray c) → PR vs.length p → Srt lt p vs.length → Q (.ref D) { s with heap := h' }) :
  wpAny (model prog w) A (call (.builtin "sorted") [.ref l]) Q E s := by
 refine Calls.call_function_entry kind_sorted plain_sorted entry_sorted (args_sorted1 _) ?_
 unfold Builtin.«sorted»
 refine wpAny_bind (m := checkCount "sorted" 1 1 _) (wpAny_pure ?_)
 refine wpAny_bind (collect_list hl ?_ (by rw [sizeLine_eq]; lia))
 refine wpAny_bind (wpAny_newList ?_ (by rw [sizeLine_eq]; lia))
 have hsz : ((s.heap.push (seqObj "list" #[] 0)).update s.heap.objs.size (Obj.mapSeq (· ++ vs.toArray))).objs.size = s.heap.objs.size + 1 := by
  rw [Heap.size_update, size_push']
 have hoL : (((s.heap.push (seqObj "list" #[] 0)).update s.heap.objs.size (Obj.mapSeq (· ++ vs.toArray))).push (seqObj "list" vs.toArray 0)).get? (s.heap.objs.size + 1) = some (seqObj "list" vs.toArray 0) := by
  rw [← hsz]; exact zM _ rfl
 have keep : ∀ b o, s.heap.get? b = some o → (((s.heap.push (seqObj "list" #[] 0)).update s.heap.objs.size (Obj.mapSeq (· ++ vs.toArray))).push (seqObj "list" vs.toArray 0)).get? b = some o := fun b o q => by
  have hlt : b < s.heap.objs.size := zA q
  rw [Heap.get?_push_ne _ _ _ (by rw [hsz]; exact zP (Nat.lt_succ_of_lt hlt)), Heap.get?_update_ne _ _ _ _ (zP hlt), Heap.get?_push_ne _ _ _ (zP hlt)]
  exact q
 show wpAny _ _ _ _ _ { s with heap := ((s.heap.push (seqObj "list" #[] 0)).update s.heap.objs.size (Obj.mapSeq (· ++ vs.toArray))).push (seqObj "list" vs.toArray 0) }
 rw [hsz]
 have ne : ∀ b o, s.heap.get? b = some o → b ≠ s.heap.objs.size + 1 := fun b o q => zP (Nat.lt_succ_of_lt (zA q))
 refine wpAny_bind (wpAny_holding (wpAny_call_entry slot_list_sort ⟨_, hoL, rfl⟩ entry_list_sort ?body (args_list_sort _)))
 case body =>
  refine RJ (s := { s with heap := ((s.heap.push (seqObj "list" #[] 0)).update s.heap.objs.size (Obj.mapSeq (· ++ vs.toArray))).push (seqObj "list" vs.toArray 0) }) hoL S h64
   (fun h2 h' k => hc h2 h' fun b o q => k b o (ne b o q) (keep b o q)) fun h' p c k hat hp hs => ?_
  exact ⟨_, rfl, wpAny_pure ⟨_, rfl, h _ h' p c (Nat.le_succ _) (fun b o q => k b o (ne b o q) (keep b o q)) hat hp hs⟩⟩
end
theorem N6 : ∀ {a b : List Int}, HT.lexLt a b = true → HT.lexLt b a = false
 | [], [], h => by cases h
 | [], _ :: _, _ => rfl
 | _ :: _, [], h => by cases h
 | x :: r, y :: t, h => by
  rw [HT.lexLt_cons] at h ⊢
  by_cases e : x = y
  ·rw [if_pos e] at h; rw [if_pos e.symm]; exact N6 h
  ·rw [if_neg e] at h; rw [if_neg (Ne.symm e)]
   have := z4 h
   exact zV (by lia)
theorem Mm : ∀ {a b c : List Int}, HT.lexLt a b = true → HT.lexLt b c = true → HT.lexLt a c = true
 | [], _, [], _, h => by rename_i b _; cases b <;> cases h
 | [], _, _ :: _, _, _ => rfl
 | _ :: _, [], _, h, _ => by cases h
 | _ :: _, _ :: _, [], _, h => by cases h
 | x :: r, y :: t, z :: u, h1, h2 => by
  rw [HT.lexLt_cons] at h1 h2 ⊢
  by_cases e1 : x = y
  ·rw [if_pos e1] at h1
   by_cases e2 : y = z
   ·rw [if_pos e2] at h2; rw [if_pos (e1.trans e2)]; exact Mm h1 h2
   ·rw [if_neg e2] at h2; rw [if_neg (by lia), e1]; exact h2
  ·rw [if_neg e1] at h1
   by_cases e2 : y = z
   ·rw [if_neg (by lia), ← e2]; exact h1
   ·rw [if_neg e2] at h2
    have d1 := z4 h1
    have d2 := z4 h2
    rw [if_neg (by lia)]
    exact z5 (by lia)
theorem O6 : ∀ {a b : List Int}, a ≠ b → HT.lexLt a b = true ∨ HT.lexLt b a = true
 | [], [], h => absurd rfl h
 | [], _ :: _, _ => .inl rfl
 | _ :: _, [], _ => .inr rfl
 | x :: r, y :: t, h => by
  rw [HT.lexLt_cons, HT.lexLt_cons]
  by_cases e : x = y
  ·rw [if_pos e, if_pos e.symm]
   exact O6 fun z => h (by rw [e, z])
  ·rw [if_neg e, if_neg (Ne.symm e)]
   rcases (by lia : x < y ∨ y < x) with z | z
   ·exact .inl (z5 z)
   ·exact .inr (z5 z)
theorem Ry {ts : List (List Int)} (h : ts.Nodup) : STO ts.length (fun i j => HT.lexLt (ts.getD i []) (ts.getD j [])) where
 tri := fun i j hi hj hij => O6 fun z => hij ((List.getElem_inj h).mp (by simpa [zE, hi, hj] using z))
 asym := fun _ _ => N6
 trans := fun _ _ _ => Mm
section
variable {prog : Program} {w : World} {A : Around} {s : Shared}
theorem J6 {Q : Bool → Shared → Prop} : ∀ {t1 t2 : List Int} {us ws : List Value} (i : Nat) (fin : Bool), Ae (t1.map V.int) us → Ae (t2.map V.int) ws → fin = decide (t1.length < t2.length) → Q (HT.lexLt t1 t2) s →
  KatLex prog w A true fin Q (us.zip ws) i s
 | [], [], us, ws, i, fin, r1, r2, hf, q => by
  cases r1; cases r2
  rw [hf]; exact q
 | [], _ :: _, us, ws, i, fin, r1, r2, hf, q => by
  cases r1
  rw [hf]; exact q
 | x :: t1, [], us, ws, i, fin, r1, r2, hf, q => by
  cases r2
  have e : us.zip ([] : List Value) = [] := by cases us <;> rfl
  rw [e, hf]; exact q
 | x :: t1, y :: t2, us, ws, i, fin, r1, r2, hf, q => by
  cases r1 with
  | cons ra rb =>
   cases r2 with
   | cons rc rd =>
    obtain ⟨k1, rfl⟩ := ra
    obtain ⟨k2, rfl⟩ := rc
    refine kat_cons (wpAny_eqBool_int ?_)
    rw [HT.lexLt_cons] at q
    by_cases e : x = y
    ·rw [if_pos e] at q
     have e2 : (x == y) = true := by simpa using e
     rw [e2]
     refine kat_yes (J6 (i + 1) fin rb rd ?_ q)
     rw [hf]; simp
    ·rw [if_neg e] at q
     have e2 : (x == y) = false := by simpa using e
     rw [e2]
     refine kat_no ?_
     cases i with
     | zero => exact oneLt_int q
     | succ i => exact kat_one _ _ (lt_int (show W.BoolBack Q (.bool (decide (x < y))) s from q))
end
section
variable {X : Cx}
theorem Ml : ∀ {zs : List (Addr × List Int)} {us : List Value}, Ae (zs.map fun z => V.ref z.1) us → us = zs.map fun z => Value.ref z.1
 | [], _, r => by cases r; rfl
 | z :: zs, _, r => by
  cases r with
  | cons ra rb =>
   cases ra
   rw [Ml rb]; rfl
theorem Nb {h : Heap} {K : W.Frag} {M : Model} : ∀ {zs : List (Addr × List Int)}, (∀ z ∈ zs, z.2 ≠ [] ∧ ∃ its : List Value, Ae (z.2.map V.int) its ∧ IsTup h z.1 its.toArray) →
  ∃ fs : List Value, KatTups h (zs.map fun z => Value.ref z.1) fs ∧ fs.length = zs.length ∧ ∀ v ∈ fs, ∃ i t, v = Value.int i t
 | [], _ => ⟨[], .nil, rfl, fun _ hv => absurd hv (by simp)⟩
 | z :: zs, hz => by
  obtain ⟨fs, h1, h2, h3⟩ := Nb (h := h) (K := K) (M := M) (zs := zs) fun y hy => hz y (zC _ hy)
  obtain ⟨hne, its, rv, o, ho, hc, n, hd⟩ := hz z zQ
  obtain ⟨a, t⟩ := z
  cases t with
  | nil => exact absurd rfl hne
  | cons x t =>
   cases rv with
   | cons ra rb =>
    obtain ⟨tk, rfl⟩ := ra
    refine ⟨.int x tk :: fs, KatTups.cons ho hc hd (by simp) h1, by rw [zU, zU, h2], fun v hv => ?_⟩
    rcases zH.mp hv with rfl | hv
    ·exact ⟨x, tk, rfl⟩
    ·exact h3 v hv
noncomputable def D9 (K : W.Frag) : List V → Hp → VK → Prop := fun xs H Q => ∃ l, xs = [.ref l] ∧ ∃ zs : List (Addr × List Int), SqL K H l (zs.map fun z => V.ref z.1) ∧ (∀ z ∈ zs, z.2 ≠ [] ∧ SqT K H z.1 (z.2.map V.int)) ∧ (zs.map (·.2)).Nodup ∧ zs.length < 64 ∧
 ∀ (D : Addr) (H' : Hp) (zs' : List (Addr × List Int)), H D = none → AI H H' → H' D = some (.lst (zs'.map fun z => V.ref z.1)) → zs'.Perm zs → zs'.Pairwise (fun a b => HT.lexLt a.2 b.2 = true) → Q (.ref D) H'
theorem Nc {zs : List (Addr × List Int)} {i : Nat} (hi : i < zs.length) : (zs.map fun z => Value.ref z.1).getD i Value.none = Value.ref (zs[i]).1 := by
 rw [zE, zG, z0 hi]; rfl
noncomputable def KL {α : Type} (d : α) (xs : List α) (p : Array Nat) : List α := p.toList.map fun i => xs.getD i d
theorem QA {α : Type} (d : α) (xs : List α) {p : Array Nat} (hp : PR xs.length p) : (KL d xs p).Perm xs := by
 have h1 : p.toList.Perm (List.range xs.length) := by simpa using Array.perm_iff_toList_perm.mp hp.pm
 have h2 := h1.map fun i => xs.getD i d
 have h3 : ((List.range xs.length).map fun i => xs.getD i d) = xs := by
  refine List.ext_getElem (by simp) fun i h1 h2 => ?_
  simp [zE]
  rw [z0 h2]; rfl
 rw [h3] at h2
 exact h2
theorem Qv {α β : Type} (d : α) (e : β) (f : α → β) (xs : List α) {p : Array Nat} (hp : PR xs.length p) : KL e (xs.map f) p = (KL d xs p).map f := by
 unfold KL
 rw [zw]
 refine List.map_congr_left fun i hi => ?_
 have hi' : i < xs.length := by
  have := (hp.pm.mem_iff).mp (Array.mem_toList_iff.mp hi)
  simpa using this
 show (xs.map f).getD i e = f (xs.getD i d)
 rw [zE, zE, zG, z0 hi']; rfl
theorem PQ {α : Type} (d : α) (xs : List α) {p : Array Nat} {k : Nat} (hk : k < (KL d xs p).length) : (KL d xs p)[k] = xs.getD (at0 p k) d := by
 have hk' : k < p.size := by simpa [KL] using hk
 have e : (KL d xs p)[k]? = some (xs.getD (at0 p k) d) := by
  unfold KL at0
  rw [zG, Array.getElem?_toList, zS, zt hk']; rfl
 rw [z0 hk] at e
 exact zI e
theorem NW : B2 X (.builtin "sorted") (D9 X.K) := by
 intro pins s σ H xs us Q I r h
 obtain ⟨l, rfl, zs, hl, ht, nd, h64, q⟩ := h
 obtain ⟨u, rfl, ru⟩ := vals1 r
 cases ru
 obtain ⟨its, rv, pl, hz⟩ := I.list hl
 have ei := Ml rv
 subst ei
 have hlen : (zs.map fun z => Value.ref z.1).length = zs.length := z6 _
 have S : STO (zs.map fun z => Value.ref z.1).length (fun i j => HT.lexLt ((zs.map (·.2)).getD i []) ((zs.map (·.2)).getD j [])) := by
  rw [hlen]
  have := Ry nd
  rw [z6] at this
  exact this
 refine QK pl.isList S (by rw [hlen]; exact h64) (fun h2 h' kp => ?_) fun D h' p c hD kp hat hp hs => ?_
 ·have tups : ∀ z ∈ zs, z.2 ≠ [] ∧ ∃ its : List Value, Ae (z.2.map V.int) its ∧ IsTup h' z.1 its.toArray := fun z hz => by
   obtain ⟨n1, n2⟩ := ht z hz
   obtain ⟨its, r1, ⟨o, ho, hc⟩, _⟩ := I.tuple n2
   exact ⟨n1, its, r1, o, kp _ _ ho, hc⟩
  obtain ⟨fs, t1, t2, t3⟩ := Nb (K := X.K) (M := model X.prog X.w) tups
  refine ⟨tuples' (Value.type "int" != Value.type "tuple"), fun R hR => ?_, fun i j C hi hj hC => ?_⟩
  ·refine kat_kind t1 (by rw [t2]; rw [hlen] at h2; lia) (fun v hv => ?_) (by decide) hR
   obtain ⟨i, t, rfl⟩ := t3 v hv
   exact .of_pure rfl
  ·rw [hlen] at hi hj
   rw [Nc hi, Nc hj]
   obtain ⟨_, i1, r1, o1, ho1, _, n1, hd1⟩ := tups zs[i] (zR hi)
   obtain ⟨_, i2, r2, o2, ho2, _, n2, hd2⟩ := tups zs[j] (zR hj)
   have eb : (Value.type "int" != Value.type "tuple") = true := by decide
   rw [eb]
   have l1 := r1.length
   have l2 := r2.length
   rw [z6] at l1 l2
   refine kat_lt ho1 hd1 ho2 hd2 ?_
   refine J6 0 _ r1 r2 ?_ ?_
   ·simp [l1, l2]
   ·have g1 : (zs.map (·.2)).getD i [] = zs[i].2 := by rw [zE, zG, z0 hi]; rfl
    have g2 : (zs.map (·.2)).getD j [] = zs[j].2 := by rw [zE, zG, z0 hj]; rfl
    rw [g1, g2] at hC
    exact hC
 ·rw [hlen] at hp hs
  have hfr : H D = none := I.hok.fresh hD
  have eo : Df (zs.map fun z => Value.ref z.1) p = (KL ((0 : Addr), ([] : List Int)) zs p).map fun z => Value.ref z.1 := Qv (0, []) Value.none (fun z : Addr × List Int => Value.ref z.1) zs hp
  have ep := QA ((0 : Addr), ([] : List Int)) zs hp
  have rel : ∀ ys : List (Addr × List Int), Ae (ys.map fun z => V.ref z.1) (ys.map fun z => Value.ref z.1) := fun ys => by
   induction ys with
   | nil => exact .nil
   | cons y ys ih => exact .cons rfl ih
  have I2 : Inv X pins σ (upd H D (.lst ((KL ((0 : Addr), ([] : List Int)) zs p).map fun z => V.ref z.1))) { s with heap := h' } := by
   refine I.laid (t' := s.toks) kp hD ⟨by rw [z6, ep.length_eq, PySem.sizeLine_eq]; lia, _, c, rel _, ?_⟩
   rw [hat, eo]
  refine ⟨.ref D, _, I2, rfl, q D _ _ hfr (A0 hfr) AQ ep ?_⟩
  refine List.pairwise_iff_getElem.mpr fun i j hi hj hij => ?_
  have hpl : (KL ((0 : Addr), ([] : List Int)) zs p).length = zs.length := ep.length_eq
  rw [PQ, PQ]
  have := Srt.all (n := zs.length) (by rw [hlen] at S; exact S) hs hij (by lia)
  have g : ∀ k, k < zs.length → (zs.map (·.2)).getD (at0 p k) [] = (zs.getD (at0 p k) (0, [])).2 := fun k hk => by
   have := hp.bd hk
   rw [zE, zE, zG, z0 this]; rfl
  rw [g i (by lia), g j (by lia)] at this
  exact this
end
theorem DF : bootBuiltins "sorted" = some (.builtin "sorted") := by decide +kernel
section
variable {X : Cx} {pos : Pos}
noncomputable def FA : TE := fun _ H Q => ∀ p H', H p = none → AI H H' → H' p = some (.dK []) → Q (.ref p) H'
end
section
variable {X : Cx} {o e : Expr} {to te : TE} {pos : Pos}
theorem PE.weak {e : Expr} {t t' : TE} (h : PE X e t) (m : ∀ σ H Q, t' σ H Q → t σ H Q) : PE X e t' := fun pins s σ H Q I q => h pins s σ H Q I (m σ H Q q)
noncomputable def CZ (to te : TE) : TE := fun σ H Q => to σ H fun x H1 => ∃ l, x = .ref l ∧ ∃ xs, H1 l = some (.lst xs) ∧ te σ H1 fun y H2 => ∃ ys, H2 l = some (.lst ys) ∧ ys.length < sizeLine ∧ Q .non (upd H2 l (.lst (ys ++ [y])))
end
section
variable {X : Cx} {o e : Expr} {to te : TE} {pos apos cpos : Pos}
noncomputable def tMono (t : TE) : TE := fun σ H Q => ∃ P : VK, t σ H P ∧ ∀ v H', P v H' → Q v H'
theorem PE.mono {t : TE} (h : PE X e t) : PE X e (tMono t) := fun pins s σ H Q I ⟨P, h1, h2⟩ =>
 thn (h pins s σ H P I h1) fun u s1 ⟨v, H1, I1, r1, q1⟩ => ⟨v, H1, I1, r1, h2 v H1 q1⟩
theorem Ma (ho : PE X o to) (he : PE X e te)
  (hbase : attributeBase o "append" X.env (eval o X.env) = eval o X.env := by rfl)
  (hfew : ((backTo cpos (starEach [e] X.env)).all (fun x => !x.1) && (backToKw cpos (keywordEach [] X.env)).all (fun x => x.1.isSome)
   && decide ([e].length + ([] : List Keyword).length + (if ([] : List Keyword).isEmpty then 0 else 1) < 30)) = true := by rfl)
  (hline : (apos.endLine == cpos.line) = true := by rfl) (hs : starEach [e] X.env = (false, eval e X.env) :: starEach [] X.env := by rfl) (hplain : (backTo cpos (starEach [] X.env)).any (·.1) = false := by rfl) :
  PE X (.Call (.Attribute o "append" apos) [e] [] cpos) (CZ to te) :=
 PE.weak (PJ PySem.F.plainAttrs_list PySem.F.slot_list_append PySem.F.type_list_append Jj ho.mono (AA he.mono AB hs) hbase hfew hline hs hplain) fun σ H Q h => by
  refine ⟨_, h, fun x H1 h1 => ?_⟩
  obtain ⟨l, rfl, xs, e1, h1⟩ := h1
  refine ⟨.inl ⟨rfl, xs, SqL.of e1⟩, _, h1, fun y H2 h2 => ?_⟩
  obtain ⟨ys, e2, hz, q⟩ := h2
  exact ⟨l, ys, y, rfl, rfl, e2, hz, q⟩
end
section
variable {X : Cx} {pos : Pos}
noncomputable def MN (i j k : Nat) (ta : TA) : TS := fun D σ H => ta σ H fun vs H1 => ∃ v w u, vs = [v, w, u] ∧ D.nx (((σ.set i (some v)).set j (some w)).set k (some u)) H1
end
section
variable {X : Cx}
noncomputable def NL (K : W.Frag) : R2 := fun x y H Q => ∃ a b, x = .ref a ∧ y = .ref b ∧ ∃ ns : List Int, SqT K H a (ns.map V.int) ∧ ∃ ms : List Int, SqT K H b (ms.map V.int) ∧ Q (.bl (decide (ns = ms))) H
noncomputable def NY (K : W.Frag) : R2 := fun x y H Q => ∃ a b, x = .ref a ∧ y = .ref b ∧ ∃ ns : List Int, SqT K H a (ns.map V.int) ∧ ∃ ms : List Int, SqT K H b (ms.map V.int) ∧ Q (.bl (!decide (ns = ms))) H
noncomputable def IU (K : W.Frag) : R2 := fun x y H Q => ∃ a b, x = .ref a ∧ y = .ref b ∧ ∃ xs, SqL K H a xs ∧ SqL K H b [] ∧ Q (.bl (decide (xs = []))) H
theorem NB {K : W.Frag} (h : X.K = K) : IxR X (Lb K) := h ▸ AO
noncomputable def Li (K : W.Frag) : V → Option Int → Option Int → Hp → VK → Prop := fun x lo hi H Q => ∃ a, x = .ref a ∧ ∃ xs, SqL K H a xs ∧ ∀ p H', H p = none → AI H H' → H' p = some (.lst (L4 xs lo hi)) → Q (.ref p) H'
theorem IK : SlR X (Li X.K) := fun pins s σ H x v vl vu lo hi sl Q I rx hs pl pu ⟨a, e, xs, h, q⟩ => SY pins s σ H x v vl vu lo hi sl Q I rx hs pl pu ⟨a, xs, e, h, fun p hp => q p _ hp (A0 hp) AQ⟩
theorem Mx {xs : List V} {i : Nat} : L4 xs (some (i : Int)) none = xs.drop i := by
 unfold L4
 rw [HT.sIx_nat, HT.sIx_none]
 by_cases h : i ≤ xs.length
 ·rw [Nat.min_eq_left h, List.take_of_length_le (by rw [zh]; lia)]
 ·rw [Nat.min_eq_right (by lia), Nat.sub_self, List.take_zero, List.drop_eq_nil_of_le (by lia)]
end
section
variable {X : Cx} {pins : List (Addr × Obj)} {σ : St} {H : Hp} {s : Shared} {h' : Heap}
theorem Inv.turnedL {t' : Nat} {its : List Addr} (I : Inv X pins σ H s) (k : ∀ b o, b ∉ its → s.heap.get? b = some o → h'.get? b = some o) (hf : ∀ b ∈ its, Hi X pins H b) : Inv X pins σ H { s with heap := h', toks := t' } := by
 have nit : ∀ b u, H b = some u → b ∉ its := fun b u e z => by rw [(hf b z).1] at e; cases e
 refine I.step (g' := s.gens) (d' := s.drawn) (ch := its) (fun b hb => ?_) (fun b o _ _ hc e _ => k b o hc e) (fun b o _ _ hc e _ => ⟨o.slots, k b o hc e⟩) (fun _ _ _ _ n => n)
  (fun b o hc e => ⟨o, k b o hc e⟩) (fun _ _ e => e) (fun _ _ _ e => e) (fun b ps e => ⟨#[], by rw [e]; simp⟩) (fun m hm => ?_) (fun b u e => ?_) I.bare
 ·obtain ⟨f0, f1, f2, f3, f4, f5⟩ := hf b hb
  exact ⟨f3, f1, f4, f5⟩
 ·obtain ⟨o, es, ep, ho, r⟩ := hm
  exact ⟨o, es, ep, k _ o (fun z => (hf _ z).2.1 rfl) ho, r⟩
 ·refine (I.hok b u e).stay (fun c v hc q => k c v ?_ q) (fun _ q => q) fun _ _ q => q
  rcases hc with z | z
  ·rw [z]; exact nit b u e
  ·exact nit c _ z
end
noncomputable def Ite (K : W.Frag) (a : Addr) : It :=
 ⟨fun i H => ∃ xs x, SqL K H a xs ∧ xs[i]? = some x, fun i H x H' => ∃ p y, x = .ref p ∧ H p = none ∧ H' = upd H p (.tup [.int (i : Int), y]) ∧ ∀ xs, SqL K H a xs → xs[i]? = some y, fun i H => ∃ xs, SqL K H a xs ∧ xs.length ≤ i⟩
theorem QC {P : Program} {w : World} {K : W.Frag} {elts : List Expr} {k : Nat} {tp : Pos} (a e it : Addr) (hei : e ≠ it) :
  Nv P w K (.Tuple elts k tp) (Ite K a) [e, it] e (fun i h => (∃ old, IsEnum h e it (i : Int) old) ∧ h.IsListIter it a i) where
 mem := by simp
 obj := fun i h st b hb => by
  obtain ⟨⟨old, he⟩, hit⟩ := st
  rcases zH.mp hb with z | z
  ·subst z
   exact ⟨_, he, fun v z => by
    have z' : Data.fields _ = Data.cell v := z
    cases z'⟩
  ·have z := zD.mp z
   subst z
   obtain ⟨o, e, c, d⟩ := hit
   exact ⟨o, e, fun v z => by rw [d] at z; cases z⟩
 keep := fun i h h' st k => ⟨⟨_, k e (by simp) _ st.1.choose_spec⟩, st.2.at fun o x => k it (by simp) o x⟩
 item := by
  intro X hP hw hK hc i pins s σ H E I hf st hg
  subst hP hw hK
  obtain ⟨xs, x, hq, hx⟩ := hg
  obtain ⟨its, rv, p, hz⟩ := I.list hq
  obtain ⟨u, hu, ru⟩ := rv.get hx
  obtain ⟨⟨old, he⟩, hit⟩ := st
  have helt : e < s.heap.objs.size := zA he
  have hilt : it < s.heap.objs.size := by obtain ⟨_, x, _⟩ := hit; exact zA x
  refine wpAny_pyNext_enum_item he hit p.isList (x := u) (by simpa using hu) hei fun h' ho hit' hT hsz hk => ?_
  refine ⟨_, rfl, wpAny_letOwnedTupleGo_enum (s := { s with heap := h', toks := s.toks + 1 }) ho fun h2 he2 hs2 => ?_⟩
  have I1 : Inv X pins σ (upd H s.heap.objs.size (.tup [.int (i : Int), x])) { s with heap := s.heap.push { cls := .type "tuple", data := .seq #[.int (i : Int) s.toks, u] }, toks := s.toks + 1 } :=
   I.laid (fun b o e => z7 _ e) (zB _) ⟨by rw [PySem.sizeLine_eq]; show 2 ≤ _; lia, [.int (i : Int) s.toks, u], .cons ⟨_, rfl⟩ (.cons ru .nil), IsTup.new s.heap _⟩
  have hfr : ∀ b ∈ [e, it], upd H s.heap.objs.size (.tup [.int (i : Int), x]) b = none := fun b hb => by
   have hlt : b < s.heap.objs.size := by
    rcases zH.mp hb with z | z
    ·rw [z]; exact helt
    ·rw [zD.mp z]; exact hilt
   rw [AJ (zP hlt)]
   exact (hf b hb).1
  refine ⟨.ref s.heap.objs.size, upd H s.heap.objs.size (.tup [.int (i : Int), x]), ?_, rfl, ⟨_, x, rfl, I.fresh, rfl, fun ys hy => by rw [I.list_inj hy hq]; exact hx⟩, ⟨⟨_, by simpa using he2⟩, hit'.at fun o y => (hs2.2 it (Ne.symm hei)).trans y⟩, hfr⟩
  refine (show Inv X pins σ (upd H s.heap.objs.size (.tup [.int (i : Int), x])) { ({ s with heap := s.heap.push { cls := .type "tuple", data := .seq #[.int (i : Int) s.toks, u] }, toks := s.toks + 1 } : Shared) with heap := h2, toks := s.toks + 1 } from ?_)
  refine Inv.turnedL (its := [e, it]) I1 (fun b o hb eb => ?_) fun b hb => ⟨hfr b hb, (hf b hb).2⟩
  have hbe : b ≠ e := fun z => hb (by simp [z])
  have hbi : b ≠ it := fun z => hb (by simp [z])
  refine (hs2.2 b hbe).trans ?_
  by_cases hbs : b = s.heap.objs.size
  ·subst hbs
   have : (s.heap.push { cls := .type "tuple", data := .seq #[.int (i : Int) s.toks, u] }).get? s.heap.objs.size = some { cls := .type "tuple", data := .seq #[.int (i : Int) s.toks, u] } := zM _ rfl
   have eb := this.symm.trans eb
   rw [← eb]
   exact hT
  ·exact hk b o hbe hbi ((Heap.get?_push_ne _ _ _ hbs).symm.trans eb)
 done := by
  intro X hP hw hK hc i pins s σ H E I hf st hg
  subst hP hw hK
  obtain ⟨xs, hq, hx⟩ := hg
  obtain ⟨its, rv, p, hz⟩ := I.list hq
  have hl := rv.length
  obtain ⟨⟨old, he⟩, hit⟩ := st
  refine wpAny_pyNext_enum_end (I.ok.hd hc) he hit p.isList (Array.getElem?_eq_none (by simp; lia)) fun h' eb => ⟨rfl, ?_⟩
  obtain ⟨f0, f1, f2, f3, f4, f5⟩ := hf it (by simp)
  exact I.turned (t' := s.toks) (fun b o hb e => eb b o hb e) f0 f1 f3 f4 f5
 self := fun _ _ _ _ _ st h => by
  obtain ⟨⟨old, he⟩, _⟩ := st
  exact wpAny_pyIter_enum he h
section
variable {X : Cx}
noncomputable def G0 (K : W.Frag) (ta : TA) : TI := fun σ H R => ta σ H fun vs H1 => ∃ a, vs = [.ref a] ∧ (∃ xs, SqL K H1 a xs) ∧ R (Ite K a) H1
theorem PL {l : Expr} {ta : TA} {p pos tp : Pos} {elts : List Expr} {k : Nat} (hg : Gl X "enumerate") (hm : X.mg "enumerate" = none) (ha : PA X [l] ta) (hs : starEach [l] X.env = [(false, eval l X.env)] := by rfl) :
  PI X (.Tuple elts k tp) (.Call (.Name "enumerate" p) [l] [] pos) (G0 X.K ta) := by
 intro pins s σ H R I h
 refine Call_ (Hk I hg hm boot_enumerate (PyProof.Rows.callWith_type1 (thn (ha pos pins s σ H _ I h) fun us s1 ⟨vs, H1, I1, r1, q1⟩ => ?_) hs rfl))
 obtain ⟨a, e, ⟨xs, hq⟩, q⟩ := q1
 subst e
 cases r1 with
 | cons r rr =>
  cases rr
  cases r
  obtain ⟨its, rv, pl, hz⟩ := I1.list hq
  refine call_enumerate_list pl.isList fun h' he hit hsz hk => ?_
  have I2 : Inv X pins σ H1 { s1 with heap := h' } := I1.kept (t' := s1.toks) hk
  refine wpAny_pyIter_enum he ?_
  refine ⟨_, [s1.heap.objs.size + 1, s1.heap.objs.size], _, _, H1, rfl, I2, QC a _ _ (Nat.succ_ne_self _), ⟨⟨_, by simpa using he⟩, hit⟩, fun b hb => ?_, q⟩
  have hb' : s1.heap.objs.size ≤ b := by
   rcases zH.mp hb with z | z
   ·rw [z]; exact Nat.le_succ _
   ·rw [zD.mp z]; exact zB _
  exact I1.fpOk hb' (I1.hok.fresh hb')
theorem Rh : bootBuiltins "all" = some (.builtin "all") := by decide +kernel
noncomputable def Lh (K : W.Frag) : List V → Hp → VK → Prop := fun xs H Q => ∃ a, xs = [.ref a] ∧ ∃ ys : List Bool, SqL K H a (ys.map V.bl) ∧ Q (.bl (ys.all id)) H
theorem N2 (hc : X.calm = true) : B2 X (.builtin "all") (Lh X.K) := by
 intro pins s σ H xs us Q I r h
 obtain ⟨a, rfl, ys, hq, q⟩ := h
 obtain ⟨u, rfl, rx⟩ := vals1 r
 cases rx
 obtain ⟨its, r', pl, hz⟩ := I.list hq
 have hlen := r'.length
 rw [z6] at hlen
 have hlt : a < s.heap.objs.size := by obtain ⟨o, n, e, _⟩ := id pl; exact zA e
 refine call_all_walk (wpAny_pyIter_list pl.isList ?_)
 refine ⟨s.heap.objs.size, _, _, _, _, _, fun i => ys.getD i true, rfl, Walks.list (A := X.A.in1) (I.ok.hd hc) _ a (zP hlt) its.toArray, ⟨⟨_, zM _ rfl, rfl, rfl⟩, pl.isList.at fun o e => z7 _ e⟩, ?_, fun h' tk hk => ?_⟩
 ·intro i v s Q E hP hQ
  have hv : its[i]? = some v := by simpa using hP
  obtain ⟨hi, _⟩ := z8.mp hv
  obtain ⟨u, e1, e2⟩ := r'.get (i := i) (x := V.bl (ys.getD i true)) (by rw [zG, z0 (by lia), zE, z0 (by lia)]; rfl)
  have e3 : v = u := zI (hv.symm.trans e1)
  have e2 : u = Value.bool (ys.getD i true) := e2
  rw [e3, e2]
  exact wpAny_truthy_bool hQ
 ·have I2 : Inv X pins σ H { s with heap := h', toks := tk } := I.kept fun b o e => hk b o (fun z => by
   rw [zD.mp z] at e
   exact absurd (zA e) (zf _)) (z7 _ e)
  refine ⟨.bl (ys.all id), H, I2, ?_, q⟩
  show Value.bool _ = Value.bool _
  congr 1
  rw [show its.toArray.size = ys.length by simp [hlen], qD]
  simp only [zv, List.mem_range, id]
  constructor
  ·intro hh b hb
   obtain ⟨i, hi, rfl⟩ := List.getElem_of_mem hb
   have := hh i hi
   rwa [zE, z0 hi] at this
  ·intro hh i hi
   rw [zE, z0 hi]
   exact hh _ (zR hi)
end
theorem OJ {K : W.Frag} {a : Addr} {xs : List V} {g : TG} {tb : TS} {D : Hr} {σ : St} {H : Hp} (Pv : Nat → St → Hp → Prop) (h0 : Pv 0 σ H) (hl : ∀ i σ H, i ≤ xs.length → Pv i σ H → SqL K H a xs)
  (hs : ∀ i x σ H p H', xs[i]? = some x → Pv i σ H → H p = none → AI H H' → H' p = some (.tup [.int (i : Int), x]) → g (.ref p) σ H' fun σ2 H2 => tb { D with nx := Pv (i + 1), ct := Pv (i + 1), bk := D.nx } σ2 H2) (hd : ∀ σ H, Pv xs.length σ H → D.nx σ H) :
  ∃ W : Nat → Nat → St → Hp → Prop, (∃ m, W 0 m σ H) ∧ ∀ i m σ H, W i m σ H →
   ((Ite K a).stop i H ∧ D.nx σ H) ∨ ((Ite K a).go i H ∧ ∃ N : St → Hp → Prop, (∀ σ' H', N σ' H' → ∃ m', m' < m ∧ W (i + 1) m' σ' H') ∧ ∀ x H', (Ite K a).yld i H x H' → g x σ H' fun σ2 H2 => tb { D with nx := N, ct := N, bk := D.nx } σ2 H2) := by
 refine ⟨fun i m σ H => m = xs.length - i ∧ i ≤ xs.length ∧ Pv i σ H, ⟨xs.length, by simp, zc _, h0⟩, ?_⟩
 rintro i m σ H ⟨rfl, hi, p⟩
 have q := hl i σ H hi p
 by_cases hlt : i < xs.length
 ·refine .inr ⟨⟨xs, xs[i], q, by simp [hlt]⟩, Pv (i + 1), fun σ' H' p' => ⟨xs.length - (i + 1), by lia, rfl, hlt, p'⟩, fun x H' y => ?_⟩
  obtain ⟨pp, z, rfl, hn, rfl, y⟩ := y
  exact hs i z σ _ _ _ (y xs q) p hn (A0 hn) AQ
 ·have e : i = xs.length := by lia
  subst e
  exact .inl ⟨⟨xs, q, zB _⟩, hd σ H p⟩
end L2
namespace TG
open PySem L2
theorem RL {d r : Int} (hd : 0 ≤ d) (hr : 0 < r) : Int.gcd r (d.fmod r) = Int.gcd d r := by
 rw [Int.fmod_eq_emod_of_nonneg d (zx hr)]
 obtain ⟨n, rfl⟩ := Int.eq_ofNat_of_zero_le hd
 obtain ⟨m, rfl⟩ := Int.eq_ofNat_of_zero_le (zx hr)
 show Nat.gcd m (((n % m : Nat) : Int)).natAbs = Nat.gcd n m
 rw [Int.natAbs_natCast, Nat.gcd_comm n m, Nat.gcd_rec m n, Nat.gcd_comm]
theorem SU {d r : Int} (hr : 0 < r) : 0 ≤ d.fmod r ∧ d.fmod r < r := ⟨Int.fmod_nonneg_of_pos d hr, Int.fmod_lt_of_pos d hr⟩
theorem Pp {d : Int} (hd : 0 ≤ d) : ((Int.gcd d 0 : Nat) : Int) = d := by
 rw [Int.gcd_zero_right]; lia
structure Hf (t b x y : Int) : Prop where
 ex : ∃ g : Int, g ≠ 0 ∧ t = g * x ∧ b = g * y
 pos : 0 < y
 one : Int.gcd x y = 1
theorem Hf.eq {t b x y : Int} (h : Hf t b x y) : t * y = b * x := by
 obtain ⟨g, _, rfl, rfl⟩ := h.ex
 rw [Int.mul_assoc, Int.mul_assoc, Int.mul_comm x y]
theorem Gr {g x : Int} (hg : g ≠ 0) : x.natAbs ≤ (g * x).natAbs := by
 rw [Int.natAbs_mul]
 exact Nat.le_mul_of_pos_left _ (by lia)
theorem Hf.absx {t b x y : Int} (h : Hf t b x y) : x.natAbs ≤ t.natAbs := by
 obtain ⟨g, hg, rfl, rfl⟩ := h.ex
 exact Gr hg
theorem Hf.absy {t b x y : Int} (h : Hf t b x y) : y.natAbs ≤ b.natAbs := by
 obtain ⟨g, hg, rfl, rfl⟩ := h.ex
 exact Gr hg
theorem Rw (t b : Int) : Int.gcd (if t < 0 then -t else t) (if b < 0 then -b else b) = Int.gcd t b := by
 split <;> split <;> simp [Int.gcd_neg, Int.neg_gcd]
theorem UJ {t b : Int} (hb : b ≠ 0) {d : Int} (hd : d = if b < 0 then -((Int.gcd t b : Nat) : Int) else ((Int.gcd t b : Nat) : Int)) : Hf t b (t.fdiv d) (b.fdiv d) ∧ d ≠ 0 := by
 have hg : 0 < Int.gcd t b := Int.gcd_pos_of_ne_zero_right t hb
 have hd0 : d ≠ 0 := by rw [hd]; split <;> lia
 have habs : d.natAbs = Int.gcd t b := by rw [hd]; split <;> lia
 have h1 : d ∣ t := by
  rw [← Int.natAbs_dvd, habs]; exact Int.gcd_dvd_left ..
 have h2 : d ∣ b := by
  rw [← Int.natAbs_dvd, habs]; exact Int.gcd_dvd_right ..
 obtain ⟨x, hx⟩ := h1
 obtain ⟨y, hy⟩ := h2
 have ex : t.fdiv d = x := by rw [hx, Int.mul_fdiv_cancel_left _ hd0]
 have ey : b.fdiv d = y := by rw [hy, Int.mul_fdiv_cancel_left _ hd0]
 rw [ex, ey]
 refine ⟨⟨⟨d, hd0, hx, hy⟩, ?_, ?_⟩, hd0⟩
 ·rcases Int.lt_trichotomy y 0 with h | h | h
  ·exfalso
   by_cases hbn : b < 0
   ·rw [if_pos hbn] at hd
    have : 0 < d * y := Int.mul_pos_of_neg_of_neg (by lia) h
    lia
   ·rw [if_neg hbn] at hd
    have : d * y < 0 := Int.mul_neg_of_pos_of_neg (by lia) h
    lia
  ·rw [h, Int.mul_zero] at hy; exact absurd hy hb
  ·exact h
 ·have e : Int.gcd t b = d.natAbs * Int.gcd x y := by
   conv => lhs; rw [hx, hy]
   exact Int.gcd_mul_left ..
  rw [habs] at e
  have e2 : Int.gcd t b * 1 = Int.gcd t b * Int.gcd x y := by rw [Nat.mul_one]; exact e
  exact (Nat.eq_of_mul_eq_mul_left hg e2).symm
theorem Rz {t u x y f : Int} (hy : 0 < y) (hu : 0 < u) (E : t * y = u * x) : f * y ≤ x ↔ f * u ≤ t := by
 constructor
 ·intro h
  have h1 := zY h (zx hu)
  rw [← E] at h1
  have h2 : (f * u) * y ≤ t * y := by
   have e : (f * u) * y = u * (f * y) := by grind
   rw [e]; exact h1
  exact Int.le_of_mul_le_mul_right h2 hy
 ·intro h
  have h1 := zF h (zx hy)
  rw [E] at h1
  have h2 : u * (f * y) ≤ u * x := by
   have e : u * (f * y) = (f * u) * y := by grind
   rw [e]; exact h1
  exact zZ h2 hu
theorem Sd {t u x y f : Int} (hy : 0 < y) (hu : 0 < u) (E : t * y = u * x) : x ≤ f * y ↔ t ≤ f * u := by
 constructor
 ·intro h
  have h1 := zY h (zx hu)
  rw [← E] at h1
  have h2 : t * y ≤ (f * u) * y := by
   have e : (f * u) * y = u * (f * y) := by grind
   rw [e]; exact h1
  exact Int.le_of_mul_le_mul_right h2 hy
 ·intro h
  have h1 := zF h (zx hy)
  rw [E] at h1
  have h2 : u * x ≤ u * (f * y) := by
   have e : u * (f * y) = (f * u) * y := by grind
   rw [e]; exact h1
  exact zZ h2 hu
structure G where
 p : Int
 f : Int
 h : Int
noncomputable abbrev G.vs (g : G) : List V := [.int g.p, .int g.f, .int g.h]
structure OkG (g : G) : Prop where
 p0 : -1000 ≤ g.p
 p1 : g.p ≤ 1000
 f0 : -1000 ≤ g.f
 fh : g.f ≤ g.h
 h1 : g.h ≤ 1000
noncomputable def Aq (H : Hp) (as : List Addr) (gs : List G) : Prop := Paired (fun a g => H a = some (.tup (G.vs g))) as gs
theorem Aq.same {H H' : Hp} {as : List Addr} {gs : List G} (h : Aq H as gs) (s : AI H H') : Aq H' as gs := by
 unfold Aq at *
 induction h with
 | nil => exact .nil
 | cons e _ ih => exact .cons (s _ _ e) ih
theorem Aq.snoc {H : Hp} {as : List Addr} {gs : List G} {a : Addr} {g : G} (h : Aq H as gs) (e : H a = some (.tup (G.vs g))) : Aq H (as ++ [a]) (gs ++ [g]) := Paired.snoc h e
theorem Aq.len {H : Hp} {as : List Addr} {gs : List G} (h : Aq H as gs) : as.length = gs.length := Paired.length h
theorem Rm {xs : List Int} {i : Int} (h0 : 0 ≤ i) (h1 : i < xs.length) : atI (xs.map V.int) i = some (V.int (xs.getD i.toNat 0)) := by
 obtain ⟨n, rfl⟩ := Int.eq_ofNat_of_zero_le h0
 have hn : n < xs.length := by lia
 refine NA ?_
 rw [zG, z0 hn, Int.toNat_natCast, zE, z0 hn]; rfl
noncomputable def Bl (a b c : G) : Prop := a.h * (c.p - b.p) + c.h * (b.p - a.p) < b.f * (c.p - a.p)
noncomputable def Bs (a b c : G) : Prop := b.h * (c.p - a.p) < a.f * (c.p - b.p) + c.f * (b.p - a.p)
instance (a b c : G) : Decidable (Bl a b c) := by unfold Bl; exact inferInstance
instance (a b c : G) : Decidable (Bs a b c) := by unfold Bs; exact inferInstance
noncomputable def LK (a b c : G) : Prop := Bl a b c ∨ Bs a b c
instance (a b c : G) : Decidable (LK a b c) := by unfold LK; exact inferInstance
noncomputable def SN (a b c : G) : Str := if Bl a b c then "foot" else if Bs a b c then "head" else ""
theorem Aq.zip {H : Hp} {as : List Addr} {gs : List G} (h : Aq H as gs) : ∃ zs : List (Addr × List Int), as = zs.map (·.1) ∧ zs.map (·.2) = gs.map (fun g => [g.p, g.f, g.h]) ∧ ∀ z ∈ zs, z.2 ≠ [] ∧ H z.1 = some (.tup (z.2.map V.int)) := by
 unfold Aq at h
 induction h with
 | nil => exact ⟨[], rfl, rfl, fun _ h => absurd h (by simp)⟩
 | @cons a g as gs e _ ih =>
  obtain ⟨zs, h1, h2, h3⟩ := ih
  refine ⟨(a, [g.p, g.f, g.h]) :: zs, by rw [h1]; rfl, by rw [zb, h2]; rfl, fun z hz => ?_⟩
  rcases zH.mp hz with rfl | hz
  ·exact ⟨by simp, e⟩
  ·exact h3 z hz
theorem Aq.of_zip {H : Hp} : ∀ {zs : List (Addr × List Int)} {gs : List G}, zs.map (·.2) = gs.map (fun g => [g.p, g.f, g.h]) → (∀ z ∈ zs, H z.1 = some (.tup (z.2.map V.int))) → Aq H (zs.map (·.1)) gs
 | [], [], _, _ => .nil
 | [], _ :: _, e, _ => by cases e
 | _ :: _, [], e, _ => by cases e
 | z :: zs, g :: gs, e, h => by
  rw [zb, zb, zr] at e
  refine .cons ?_ (Aq.of_zip e.2 fun y hy => h y (zC _ hy))
  have := h z zQ
  rw [e.1] at this
  exact this
noncomputable def toG (t : List Int) : G := ⟨t.getD 0 0, t.getD 1 0, t.getD 2 0⟩
theorem SM (gs : List G) : (gs.map fun g => [g.p, g.f, g.h]).map toG = gs := by
 rw [zw]
 have : (toG ∘ fun g : G => [g.p, g.f, g.h]) = id := by funext g; rfl
 rw [this, List.map_id]
theorem lex_p {g g' : G} (hne : g.p ≠ g'.p) (h : HT.lexLt [g.p, g.f, g.h] [g'.p, g'.f, g'.h] = true) : g.p < g'.p := by
 rw [HT.lexLt_cons, if_neg hne] at h
 exact z4 h
noncomputable def Asc (gs : List G) : Prop := gs.Pairwise fun a b => a.p < b.p
section
variable {X : Cx}
noncomputable def D0 (K : W.Frag) : List V → Hp → VK → Prop := fun xs H Q => ∃ l, xs = [.ref l] ∧ ∃ (as : List Addr) (gs : List G), SqL K H l (as.map V.ref) ∧ Aq H as gs ∧ (gs.map G.p).Nodup ∧ gs.length < 64 ∧
 ∀ (D : Addr) (H' : Hp) (as' : List Addr) (gs' : List G), H D = none → AI H H' → H' D = some (.lst (as'.map V.ref)) → Aq H' as' gs' → gs'.Perm gs → Asc gs' → Q (.ref D) H'
theorem Bq : B2 X (.builtin "sorted") (D0 X.K) := NW.weak fun xs H Q ⟨l, e, as, gs, hl, ga, nd, h64, q⟩ => by
 obtain ⟨zs, h1, h2, h3⟩ := ga.zip
 have hlen : zs.length = gs.length := by
  have := congrArg List.length h2
  simpa using this
 refine ⟨l, e, zs, ?_, fun z hz => ⟨(h3 z hz).1, SqT.of (h3 z hz).2⟩, ?_, by lia, fun D H' zs' hD hs hat hp hsrt => ?_⟩
 ·rw [h1, zw] at hl
  exact hl
 ·rw [h2]
  refine zz.mpr ((zz.mp nd).imp fun {a b} h z => h ?_)
  simp at z
  exact z.1
 ·have hm : (zs'.map (·.2)).Perm (gs.map fun g => [g.p, g.f, g.h]) := by rw [← h2]; exact hp.map _
  have hg : ((zs'.map (·.2)).map toG).Perm gs := by
   have := hm.map toG
   rw [SM] at this
   exact this
  have hback : zs'.map (·.2) = ((zs'.map (·.2)).map toG).map fun g => [g.p, g.f, g.h] := by
   rw [zw]
   conv => lhs; rw [← List.map_id (zs'.map (·.2))]
   refine List.map_congr_left fun t ht => ?_
   obtain ⟨g, _, rfl⟩ := zX.mp (hm.mem_iff.mp ht)
   rfl
  refine q D H' (zs'.map (·.1)) ((zs'.map (·.2)).map toG) hD hs ?_ ?_ hg ?_
  ·rw [hat, zw]; rfl
  ·exact Aq.of_zip hback fun z hz => hs.get (h3 z (hp.mem_iff.mp hz)).2
  ·have ndp : ((((zs'.map (·.2)).map toG)).map G.p).Nodup := ((hg.map G.p).nodup_iff).mpr nd
   have hsr : (((zs'.map (·.2)).map toG)).Pairwise fun a b => HT.lexLt [a.p, a.f, a.h] [b.p, b.f, b.h] = true := by
    have : ((((zs'.map (·.2)).map toG)).map fun g : G => [g.p, g.f, g.h]).Pairwise fun a b => HT.lexLt a b = true := by
     rw [← hback]
     exact zz.mpr hsrt
    exact zz.mp this
   have hne := zz.mp ndp
   exact (hsr.and hne).imp fun {a b} h => lex_p h.2 h.1
end
noncomputable def Jc (sg : List G) (i j k : Nat) : Prop := i < j ∧ j < k ∧ ∃ a b c, sg[i]? = some a ∧ sg[j]? = some b ∧ sg[k]? = some c ∧ LK a b c
noncomputable def EC (sg : List G) : Prop := ∀ i j k, ¬ Jc sg i j k
noncomputable def Ax (sg : List G) (i j k : Nat) : Prop := ∀ i' j' k', Jc sg i' j' k' → i < i' ∨ (i = i' ∧ (j < j' ∨ (j = j' ∧ k ≤ k')))
noncomputable def SI (sg : List G) (i j k : Nat) : Prop := Jc sg i j k ∧ Ax sg i j k
inductive Hs (gs : List G) (t : List Int) : Prop where
 | no (sg : List G) (hp : sg.Perm gs) (ha : Asc sg) (hn : EC sg) (ht : t = [])
 | yes (sg : List G) (hp : sg.Perm gs) (ha : Asc sg) (i j k : Nat) (a b c : G) (hf : SI sg i j k) (h1 : sg[i]? = some a) (h2 : sg[j]? = some b) (h3 : sg[k]? = some c) (ht : t = [a.p, b.p, c.p])
theorem GJ : ∀ {xs ys : List G}, Asc xs → Asc ys → xs.Perm ys → xs = ys
 | [], ys, _, _, h => (List.nil_perm.mp h).symm
 | x :: xs, [], _, _, h => absurd h (by intro z; have := z.length_eq; simp at this)
 | x :: xs, y :: ys, h1, h2, h => by
  obtain ⟨a1, a2⟩ := List.pairwise_cons.mp h1
  obtain ⟨b1, b2⟩ := List.pairwise_cons.mp h2
  have e : x = y := by
   have hx : x ∈ y :: ys := h.mem_iff.mp zQ
   have hy : y ∈ x :: xs := h.mem_iff.mpr zQ
   rcases zH.mp hx with e | hx
   ·exact e
   ·rcases zH.mp hy with e | hy
    ·exact e.symm
    ·have := a1 y hy
     have := b1 x hx
     lia
  subst e
  rw [GJ a2 b2 ((List.perm_cons x).mp h)]
theorem Hs.perm {gs gs' : List G} {t : List Int} (h : Hs gs t) (hp : gs.Perm gs') : Hs gs' t := by
 cases h with
 | no sg hp' ha hn ht => exact .no sg (hp'.trans hp) ha hn ht
 | yes sg hp' ha i j k a b c hf h1 h2 h3 ht => exact .yes sg (hp'.trans hp) ha i j k a b c hf h1 h2 h3 ht
theorem Aq.get {H : Hp} {as : List Addr} {gs : List G} (h : Aq H as gs) {i : Nat} {g : G} (hg : gs[i]? = some g) : ∃ a, as[i]? = some a ∧ H a = some (.tup (G.vs g)) := by
 unfold Aq at h
 induction h generalizing i with
 | nil => simp at hg
 | cons e _ ih =>
  cases i with
  | zero => simp at hg; subst hg; exact ⟨_, rfl, e⟩
  | succ i => exact ih (by simpa using hg)
theorem DO {as : List Addr} {i : Nat} {a : Addr} (h : as[i]? = some a) : atI (as.map V.ref) (i : Int) = some (V.ref a) := NA (by rw [zG, h]; rfl)
theorem Jc.lt {sg : List G} {i j k : Nat} (h : Jc sg i j k) : k < sg.length := by
 obtain ⟨_, _, a, b, c, _, _, h3, _⟩ := h
 exact (z8.mp h3).1
theorem Rn (sg : List G) : Ax sg 0 0 0 := fun i j k h => by
 have := h.1
 lia
theorem T7 {sg : List G} {i : Nat} (h : Ax sg i 0 0) : Ax sg i (i + 1) 0 := fun i' j' k' hb => by
 have h1 := h _ _ _ hb
 have h2 := hb.1
 lia
theorem na_in {sg : List G} {i j : Nat} (h : Ax sg i j 0) : Ax sg i j (j + 1) := fun i' j' k' hb => by
 have h1 := h _ _ _ hb
 have h2 := hb.2.1
 lia
theorem QJ {sg : List G} {i j k : Nat} (hk : sg.length ≤ k) (h : Ax sg i j k) : Ax sg i (j + 1) 0 := fun i' j' k' hb => by
 have h1 := h _ _ _ hb
 have h2 := hb.lt
 lia
theorem Oj {sg : List G} {i j : Nat} (hj : sg.length ≤ j) (h : Ax sg i j 0) : Ax sg (i + 1) 0 0 := fun i' j' k' hb => by
 have h1 := h _ _ _ hb
 have h2 := hb.lt
 have h3 := hb.2.1
 have h4 := hb.1
 lia
theorem Se {sg : List G} {i j k : Nat} (h : Ax sg i j k) (hn : ¬ Jc sg i j k) : Ax sg i j (k + 1) := fun i' j' k' hb => by
 have h1 := h _ _ _ hb
 by_cases e : i = i' ∧ j = j' ∧ k = k'
 ·obtain ⟨rfl, rfl, rfl⟩ := e
  exact absurd hb hn
 ·lia
theorem na_no {sg : List G} (h : Ax sg sg.length 0 0) : EC sg := fun i j k hb => by
 have h1 := h _ _ _ hb
 have h2 := hb.lt
 have h3 := hb.1
 have h4 := hb.2.1
 lia
noncomputable def Pas (a b c d pl f h : Int) : Prop := f * (b * d) ≤ a * d + pl * c * b ∧ a * d + pl * c * b ≤ h * (b * d)
instance (a b c d pl f h : Int) : Decidable (Pas a b c d pl f h) := by unfold Pas; exact inferInstance
structure Thr where
 a : Int
 b : Int
 c : Int
 d : Int
noncomputable abbrev Thr.vs (t : Thr) : List V := [.int t.a, .int t.b, .int t.c, .int t.d]
noncomputable abbrev Thr.pas (t : Thr) (g : G) : Prop := Pas t.a t.b t.c t.d g.p g.f g.h
noncomputable abbrev Thr.gap (t : Thr) (p h : Int) : Int := t.a * t.d + t.c * p * t.b - h * t.b * t.d
structure OkT (t : Thr) : Prop where
 a1 : t.a.natAbs ≤ 999999999
 b1 : t.b.natAbs ≤ 999999999
 c1 : t.c.natAbs ≤ 999999999
 d1 : t.d.natAbs ≤ 999999999
 b0 : 0 < t.b
 d0 : 0 < t.d
 g1 : Int.gcd t.a t.b = 1
 g2 : Int.gcd t.c t.d = 1
inductive Rr (H : Hp) (D : Addr) (gs : List G) : Prop where
 | mk (q : Addr) (t : List Int) (e : H D = some (.tup [.str "bar", .ref q])) (e2 : H q = some (.tup (t.map V.int))) (ne : t ≠ []) (f : Hs gs t)
inductive ML (H : Hp) (D : Addr) (gs : List G) : Prop where
 | throw (q : Addr) (t : Thr) (e : H D = some (.tup [.str "throw", .ref q])) (e2 : H q = some (.tup t.vs)) (ok : OkT t) (all : ∀ g ∈ gs, t.pas g)
 | bar (b : Rr H D gs)
noncomputable abbrev endA (up : Bool) (g : G) : Int := if up then g.f else g.h
noncomputable abbrev endB (up : Bool) (g : G) : Int := if up then g.h else g.f
inductive Na (up : Bool) (H : Hp) (D : Addr) (gs : List G) : Prop where
 | throw (q : Addr) (t : Thr) (x y : G) (e : H D = some (.tup [.str "throw", .ref q, .int x.p, .int y.p])) (e2 : H q = some (.tup t.vs)) (ok : OkT t) (all : ∀ g ∈ gs, t.pas g) (hx : x ∈ gs) (hy : y ∈ gs) (lt : x.p < y.p) (tx : t.gap x.p (endA up x) = 0) (ty : t.gap y.p (endB up y) = 0)
 | bar (b : Rr H D gs)
noncomputable def Gh (u w m : Int) (g : G) : Prop := g.f * m ≤ u + w * g.p ∧ u + w * g.p ≤ g.h * m
theorem Qa {t : Thr} {g : G} : t.pas g ↔ Gh (t.a * t.d) (t.c * t.b) (t.b * t.d) g := by
 show Pas _ _ _ _ _ _ _ ↔ _
 unfold Pas Gh
 rw [show g.p * t.c * t.b = t.c * t.b * g.p by grind]
theorem Nr {a b c : G} {u w m : Int} (h1 : a.p < b.p) (h2 : b.p < c.p) (hm : 0 < m) (hb : LK a b c) (la : Gh u w m a) (lb : Gh u w m b) (lc : Gh u w m c) : False := by
 obtain ⟨a1, a2⟩ := la
 obtain ⟨b1, b2⟩ := lb
 obtain ⟨c1, c2⟩ := lc
 have e : (u + w * b.p) * (c.p - a.p) = (u + w * a.p) * (c.p - b.p) + (u + w * c.p) * (b.p - a.p) := by grind
 rcases hb with hb | hb
 ·unfold Bl at hb
  have k1 := Int.mul_lt_mul_of_pos_right hb hm
  have k2 := zF b1 (show 0 ≤ c.p - a.p by lia)
  have k3 := zF a2 (show 0 ≤ c.p - b.p by lia)
  have k4 := zF c2 (show 0 ≤ b.p - a.p by lia)
  rw [e] at k2
  have e1 : (a.h * (c.p - b.p) + c.h * (b.p - a.p)) * m = a.h * m * (c.p - b.p) + c.h * m * (b.p - a.p) := by grind
  have e2 : b.f * (c.p - a.p) * m = b.f * m * (c.p - a.p) := by grind
  rw [e1, e2] at k1
  lia
 ·unfold Bs at hb
  have k1 := Int.mul_lt_mul_of_pos_right hb hm
  have k2 := zF b2 (show 0 ≤ c.p - a.p by lia)
  have k3 := zF a1 (show 0 ≤ c.p - b.p by lia)
  have k4 := zF c1 (show 0 ≤ b.p - a.p by lia)
  rw [e] at k2
  have e1 : (a.f * (c.p - b.p) + c.f * (b.p - a.p)) * m = a.f * m * (c.p - b.p) + c.f * m * (b.p - a.p) := by grind
  have e2 : b.h * (c.p - a.p) * m = b.h * m * (c.p - a.p) := by grind
  rw [e1, e2] at k1
  lia
theorem DN {gs : List G} (ha : Asc gs) {i j : Nat} {x y : G} (hx : gs[i]? = some x) (hy : gs[j]? = some y) (hij : i < j) : x.p < y.p := by
 obtain ⟨h1, rfl⟩ := z8.mp hx
 obtain ⟨h2, rfl⟩ := z8.mp hy
 exact List.pairwise_iff_getElem.mp ha i j h1 h2 hij
theorem LS {gs : List G} (ok : ∀ g ∈ gs, OkG g) {x y : G} (hx : x ∈ gs) (hy : y ∈ gs) (lt : x.p < y.p)
  (least : ∀ x' ∈ gs, ∀ y' ∈ gs, x'.p < y'.p → (y.h - x.f) * (y'.p - x'.p) ≤ (y'.h - x'.f) * (y.p - x.p))
  (uniq : ∀ g ∈ gs, ∀ g' ∈ gs, g.p = g'.p → g = g')
  (nb1 : ∀ m ∈ gs, m.p < x.p → ¬ Bl m x y) (nb2 : ∀ m ∈ gs, y.p < m.p → ¬ Bs x y m) :
  ∀ g ∈ gs, Gh (x.f * y.p - y.h * x.p) (y.h - x.f) (y.p - x.p) g := by
 intro g hg
 have og := ok g hg
 have ox := ok x hx
 have oy := ok y hy
 have gfh := og.fh
 unfold Gh
 have eL : x.f * y.p - y.h * x.p + (y.h - x.f) * g.p = x.f * (y.p - g.p) + y.h * (g.p - x.p) := by grind
 rw [eL]
 rcases Int.lt_trichotomy g.p x.p with h | h | h
 ·have k1 := least g hg y hy (by lia)
  refine ⟨by grind, ?_⟩
  have k2 := nb1 g hg h
  unfold Bl at k2
  rw [Int.not_lt] at k2
  grind
 ·have := uniq g hg x hx h
  subst this
  refine ⟨by grind, ?_⟩
  have := zF gfh (show 0 ≤ y.p - g.p by lia)
  grind
 ·rcases Int.lt_trichotomy g.p y.p with h' | h' | h'
  ·have k1 := least g hg y hy h'
   have k2 := least x hx g hg h
   exact ⟨by grind, by grind⟩
  ·have := uniq g hg y hy h'
   subst this
   refine ⟨?_, by grind⟩
   have := zF gfh (show 0 ≤ g.p - x.p by lia)
   grind
  ·have k1 := least x hx g hg (by lia)
   refine ⟨?_, by grind⟩
   have k2 := nb2 g hg h'
   unfold Bs at k2
   rw [Int.not_lt] at k2
   grind
theorem Aq.fresh {H : Hp} {as : List Addr} {gs : List G} {D : Addr} {o : HO} (h : Aq H as gs) (hD : ∀ ys, H D ≠ some (.tup ys)) : Aq (L2.upd H D o) as gs := by
 induction h with
 | nil => exact .nil
 | cons e _ ih =>
  refine .cons ?_ ih
  rw [AJ (fun z => hD _ (z ▸ e))]
  exact e
theorem OC {K : W.Frag} {a : Addr} {as : List Addr} {gs : List G} {tc : TT} {caps : St} {D : Addr} {H1 : Hp} {Q : Hp → Prop} (P : G → Bool) (hl : SqL K H1 a (as.map V.ref)) (ga : Aq H1 as gs) (hD : H1 D = none) (hz : gs.length ≤ 1000)
  (ht : ∀ v g H (R : Bool → Hp → Prop), g ∈ gs → AI H1 H → H v = some (.tup (G.vs g)) → R (P g) H → tc (some (.ref v) :: caps) H R)
  (hd : ∀ H as', AI H1 H → H D = some (.lst (as'.map V.ref)) → Aq H as' (gs.filter P) → Q H) : F0 (Gj 0) tc caps (Itl K a) D H1 Q := by
 have la := ga.len
 refine C3 (xs := as.map V.ref) (fun i ys H => ∃ as' : List Addr, ys = as'.map V.ref ∧ AI H1 H ∧ H D = some (.lst ys) ∧ Aq H as' ((gs.take i).filter P) ∧ as'.length ≤ i) ⟨[], rfl, A0 hD, AQ, .nil, zB _⟩ (fun _ _ H _ ⟨_, _, s1, _⟩ => s1.seq hl) ?_ ?_
 ·rintro i x ys H hx ⟨as', rfl, s1, e1, g1, l1⟩
  have hi : i < gs.length := by
   have := (z8.mp hx).1
   rw [z6] at this
   lia
  obtain ⟨v, hv, t1⟩ := ga.get (z0 hi)
  have ex : x = V.ref v := by
   rw [zG, hv] at hx
   exact (zI hx).symm
  subst ex
  have et : gs.take (i + 1) = gs.take i ++ [gs[i]] := zK hi
  refine ht v gs[i] H _ (zR hi) s1 (s1.get t1) ?_
  have hlen : (as.map V.ref).length = gs.length := by rw [z6, la]
  by_cases hp : P gs[i] = true
  ·rw [if_pos hp]
   refine ⟨_, rfl, e1, by rw [z6, PySem.sizeLine_eq]; lia, _, by lia, rfl, by lia, as' ++ [v], by rw [zj]; rfl, s1.updFresh hD, AQ, ?_, by rw [zW]; simp; lia⟩
   rw [et, qC, qA, if_pos hp, List.filter_nil]
   exact (g1.snoc (s1.get t1)).fresh (fun ys z => by rw [e1] at z; cases z)
  ·rw [if_neg hp]
   refine ⟨_, by lia, rfl, by lia, as', rfl, s1, e1, ?_, by lia⟩
   rw [et, qC, qA, if_neg hp, List.filter_nil, List.append_nil]
   exact g1
 ·rintro ys H ⟨as', rfl, s1, e1, g1, l1⟩
  rw [z6, la, zm] at g1
  exact hd H as' s1 e1 g1
theorem Paired.get {α β : Type} {F : α → β → Prop} {xs : List α} {ys : List β} (h : Paired F xs ys) {i : Nat} {y : β} (hy : ys[i]? = some y) : ∃ x, xs[i]? = some x ∧ F x y := by
 induction h generalizing i with
 | nil => exact absurd hy (by simp)
 | cons e _ ih =>
  cases i with
  | zero =>
   rw [List.getElem?_cons_zero] at hy ⊢
   cases hy
   exact ⟨_, rfl, e⟩
  | succ i =>
   rw [List.getElem?_cons_succ] at hy ⊢
   exact ih hy
theorem Pu {xs : List G} (h : xs.length ≤ 2) : EC xs := fun i j k hb => by
 have := hb.lt
 have := hb.1
 have := hb.2.1
 lia
theorem Os {gs : List G} (ha : Asc gs) {u w m : Int} (hm : 0 < m) (h : ∀ g ∈ gs, Gh u w m g) : EC gs := fun i j k ⟨h1, h2, a, b, c, e1, e2, e3, hb⟩ =>
 Nr (DN ha e1 e2 h1) (DN ha e2 e3 h2) hm hb (h _ (zT e1)) (h _ (zT e2)) (h _ (zT e3))
theorem Aq.takeG {H : Hp} {as : List Addr} {gs : List G} (h : Aq H as gs) (n : Nat) : Aq H (as.take n) (gs.take n) := by
 induction h generalizing n with
 | nil => rw [List.take_nil, List.take_nil]; exact .nil
 | cons e t ih =>
  cases n with
  | zero => exact .nil
  | succ n => exact .cons e (ih n)
theorem Kv {xs : List V} {i : Nat} : L4 xs none (some (i : Int)) = xs.take i := by
 unfold L4
 rw [HT.sIx_nat, HT.sIx_none, List.drop_zero, Nat.sub_zero]
 by_cases h : i ≤ xs.length
 ·rw [Nat.min_eq_left h]
 ·rw [Nat.min_eq_right (by lia), zm, List.take_of_length_le (by lia)]
theorem Aq.append {H : Hp} {as bs : List Addr} {gs hs : List G} (h : Aq H as gs) (h' : Aq H bs hs) : Aq H (as ++ bs) (gs ++ hs) := by
 induction h with
 | nil => exact h'
 | cons e _ ih => exact .cons e ih
theorem KC {K : W.Frag} {a : Addr} {as : List Addr} {gs : List G} {te : TE} {tc : TT} {caps : St} {D : Addr} {H1 : Hp} {Q : Hp → Prop} (P : G → Bool) (f : G → V) (hl : SqL K H1 a (as.map V.ref)) (ga : Aq H1 as gs) (hD : H1 D = none) (hz : gs.length ≤ 1000)
  (ht : ∀ v g H (R : Bool → Hp → Prop), g ∈ gs → AI H1 H → H v = some (.tup (G.vs g)) → R (P g) H → tc (some (.ref v) :: caps) H R)
  (he : ∀ v g H (R : VK), g ∈ gs → AI H1 H → H v = some (.tup (G.vs g)) → R (f g) H → te (some (.ref v) :: caps) H R)
  (hd : ∀ H, AI H1 H → H D = some (.lst ((gs.filter P).map f)) → Q H) : F0 te tc caps (Itl K a) D H1 Q := by
 have la := ga.len
 refine C3 (xs := as.map V.ref) (fun i ys H => ys = ((gs.take i).filter P).map f ∧ AI H1 H ∧ H D = some (.lst ys)) ⟨rfl, A0 hD, AQ⟩ (fun _ _ H _ ⟨_, s1, _⟩ => s1.seq hl) ?_ ?_
 ·rintro i x ys H hx ⟨rfl, s1, e1⟩
  have hi : i < gs.length := by
   have := (z8.mp hx).1
   rw [z6] at this
   lia
  obtain ⟨v, hv, t1⟩ := ga.get (z0 hi)
  have ex : x = V.ref v := by
   rw [zG, hv] at hx
   exact (zI hx).symm
  subst ex
  have et : gs.take (i + 1) = gs.take i ++ [gs[i]] := zK hi
  have hlen : (as.map V.ref).length = gs.length := by rw [z6, la]
  have hle : (((gs.take i).filter P).map f).length ≤ i := by
   rw [z6]
   exact zL (List.length_filter_le _ _) (List.length_take_le _ _)
  refine ht v gs[i] H _ (zR hi) s1 (s1.get t1) ?_
  by_cases hp : P gs[i] = true
  ·rw [if_pos hp]
   refine he v gs[i] H _ (zR hi) s1 (s1.get t1) ?_
   refine ⟨e1, by rw [PySem.sizeLine_eq]; lia, _, by lia, rfl, by lia, ?_, s1.updFresh hD, AQ⟩
   rw [et, qC, qA, if_pos hp, List.filter_nil, zj]
   rfl
  ·rw [if_neg hp]
   refine ⟨_, by lia, rfl, by lia, ?_, s1, e1⟩
   rw [et, qC, qA, if_neg hp, List.filter_nil, List.append_nil]
 ·rintro ys H ⟨rfl, s1, e1⟩
  rw [z6, la, zm] at e1
  exact hd H s1 e1
structure Qk (H : Hp) (D : Addr) (gs : List G) (L q : Addr) (t : Thr) (sg : List G) : Prop where
 eD : H D = some (.tup [.ref L, .ref q])
 eL : H L = some (.lst (((sg.filter fun g => decide (t.pas g)).map G.p).map V.int))
 eq : H q = some (.tup t.vs)
 ok : OkT t
 hp : sg.Perm gs
 ha : Asc sg
 most : ∀ u w m : Int, 0 < m → ∀ ps : List G, ps.Sublist sg → (∀ g ∈ ps, Gh u w m g) → ps.length ≤ (sg.filter fun g => decide (t.pas g)).length
theorem Kr : ∀ (xs : List (Int × Int)), xs ≠ [] → (∀ x ∈ xs, 0 < x.2) → ∃ x ∈ xs, ∀ y ∈ xs, x.1 * y.2 ≤ y.1 * x.2
 | [], h, _ => absurd rfl h
 | [x], _, _ => ⟨x, by simp, fun y hy => by rw [zD.mp hy]; exact Int.le_refl _⟩
 | x :: z :: xs, _, hp => by
  obtain ⟨y, hy, hm⟩ := Kr (z :: xs) (by simp) (fun w hw => hp w (zC _ hw))
  have px := hp x (by simp)
  have py := hp y (zC _ hy)
  by_cases h : x.1 * y.2 ≤ y.1 * x.2
  ·refine ⟨x, by simp, fun w hw => ?_⟩
   rcases zH.mp hw with e | e
   ·rw [e]; exact Int.le_refl _
   ·have pw := hp w hw
    have k1 := zF h (show 0 ≤ w.2 by lia)
    have k2 := zF (hm w e) (show 0 ≤ x.2 by lia)
    have k3 : x.1 * w.2 * y.2 ≤ w.1 * x.2 * y.2 := by grind
    exact Int.le_of_mul_le_mul_right k3 py
  ·refine ⟨y, zC _ hy, fun w hw => ?_⟩
   rcases zH.mp hw with e | e
   ·rw [e]; lia
   ·exact hm w e
theorem GU {gs : List G} (ha : Asc gs) {i j : Nat} {x y : G} (hx : gs[i]? = some x) (hy : gs[j]? = some y) (h : x.p < y.p) : i < j := by
 rcases Nat.lt_trichotomy i j with c | c | c
 ·exact c
 ·subst c
  rw [hx] at hy
  cases hy
  lia
 ·have := DN ha hy hx c
  lia
theorem Ga {gs : List G} (ha : Asc gs) (nb : EC gs) {a b c : G} (h1 : a ∈ gs) (h2 : b ∈ gs) (h3 : c ∈ gs) (l1 : a.p < b.p) (l2 : b.p < c.p) : ¬ LK a b c := by
 obtain ⟨i, hi⟩ := zd.mp h1
 obtain ⟨j, hj⟩ := zd.mp h2
 obtain ⟨k, hk⟩ := zd.mp h3
 exact fun hb => nb i j k ⟨GU ha hi hj l1, GU ha hj hk l2, a, b, c, hi, hj, hk, hb⟩
theorem Kj {gs : List G} (ha : Asc gs) {x y : G} (hx : x ∈ gs) (hy : y ∈ gs) (e : x.p = y.p) : x = y := by
 obtain ⟨i, hi⟩ := zd.mp hx
 obtain ⟨j, hj⟩ := zd.mp hy
 rcases Nat.lt_trichotomy i j with c | c | c
 ·have := DN ha hi hj c
  lia
 ·subst c
  rw [hi] at hj
  exact zI hj
 ·have := DN ha hj hi c
  lia
theorem MZ {K : W.Frag} {a : Addr} {as : List Addr} {gs : List G} {te : TE} {caps : St} {D : Addr} {H1 : Hp} {Q : Hp → Prop} (F : Hp → V → G → Prop) (fs : ∀ H H' v g, AI H H' → F H v g → F H' v g)
  (fd : ∀ H v g xs ys, H D = some (.lst xs) → F H v g → F (L2.upd H D (.lst ys)) v g) (hl : SqL K H1 a (as.map V.ref)) (ga : Aq H1 as gs) (hD : H1 D = none) (hz : gs.length ≤ 1000)
  (he : ∀ v g H (R : VK), g ∈ gs → AI H1 H → H v = some (.tup (G.vs g)) → (∀ y H', AI H H' → F H' y g → R y H') → te (some (.ref v) :: caps) H R)
  (hd : ∀ H ys, AI H1 H → H D = some (.lst ys) → Paired (F H) ys gs → Q H) : F0 te F4 caps (Itl K a) D H1 Q := by
 have la := ga.len
 have hlen : (as.map V.ref).length = gs.length := by rw [z6, la]
 refine C3 (xs := as.map V.ref) (fun i ys H => AI H1 H ∧ H D = some (.lst ys) ∧ Paired (F H) ys (gs.take i)) ⟨A0 hD, AQ, .nil⟩ (fun _ _ H _ ⟨s1, _⟩ => s1.seq hl) ?_ ?_
 ·rintro i x ys H hx ⟨s1, e1, pr⟩
  have hi : i < gs.length := by
   have := (z8.mp hx).1
   lia
  obtain ⟨v, hv, t1⟩ := ga.get (z0 hi)
  have ex : x = V.ref v := by
   rw [zG, hv] at hx
   exact (zI hx).symm
  subst ex
  have et : gs.take (i + 1) = gs.take i ++ [gs[i]] := zK hi
  have hle : ys.length ≤ i := by
   rw [Paired.length pr]
   exact List.length_take_le _ _
  unfold F4
  dsimp only
  rw [if_pos rfl]
  refine he v gs[i] H _ (zR hi) s1 (s1.get t1) fun y H' s2 fy => ?_
  refine ⟨s2.get e1, by rw [PySem.sizeLine_eq]; lia, _, by lia, rfl, by lia, (s1.trans s2).updFresh hD, AQ, ?_⟩
  rw [et]
  have e2 := s2.get e1
  have pr2 := Paired.mapP pr fun v g h => fd _ _ _ _ (ys ++ [y]) e2 (fs _ _ _ _ s2 h)
  have app : ∀ {α β : Type} {F : α → β → Prop} {l : List α} {r : List β} {x : α} {y : β}, Paired F l r → F x y → Paired F (l ++ [x]) (r ++ [y]) := by
   intro α β F l r x y h hxy
   induction h with
   | nil => exact .cons hxy .nil
   | cons h1 _ ih => exact .cons h1 ih
  exact app pr2 (fd _ _ _ _ _ e2 fy)
 ·rintro ys H ⟨s1, e1, pr⟩
  rw [hlen, zm] at pr
  exact hd H ys s1 e1 pr
theorem Paired.eq_map {α β : Type} {f : β → α} : ∀ {xs : List α} {ys : List β}, Paired (fun x y => x = f y) xs ys → xs = ys.map f
 | _, _, .nil => rfl
 | _, _, .cons h t => by rw [zb, ← Paired.eq_map t, h]
theorem Nj {p0 h0 p1 h1 a b c d : Int} (lt : p0 < p1) (L1 : Hf (h0 * (p1 - p0) - p0 * (h1 - h0)) (p1 - p0) a b) (L2 : Hf (h1 - h0) (p1 - p0) c d) :
  (∀ g : G, (⟨a, b, c, d⟩ : Thr).pas g ↔ Gh (h0 * p1 - h1 * p0) (h1 - h0) (p1 - p0) g) ∧ (⟨a, b, c, d⟩ : Thr).gap p0 h0 = 0 ∧ (⟨a, b, c, d⟩ : Thr).gap p1 h1 = 0 := by
 have e1 := L1.eq
 have e2 := L2.eq
 have hb := L1.pos
 have hd := L2.pos
 have hbd : 0 < b * d := Int.mul_pos hb hd
 have hS : 0 < p1 - p0 := by lia
 have eU : h0 * (p1 - p0) - p0 * (h1 - h0) = h0 * p1 - h1 * p0 := by grind
 rw [eU] at e1
 have key : ∀ p, (p1 - p0) * (a * d + c * b * p) = (b * d) * (h0 * p1 - h1 * p0 + (h1 - h0) * p) := fun p => by grind
 refine ⟨fun g => ?_, ?_, ?_⟩
 ·rw [Qa]
  unfold Gh
  show g.f * (b * d) ≤ a * d + c * b * g.p ∧ a * d + c * b * g.p ≤ g.h * (b * d) ↔ _
  have k := key g.p
  constructor
  ·rintro ⟨q1, q2⟩
   have r1 := zY q1 (zx hS)
   have r2 := zY q2 (zx hS)
   rw [k] at r1 r2
   refine ⟨zZ (a := b * d) ?_ hbd, zZ (a := b * d) ?_ hbd⟩
   ·rw [show b * d * (g.f * (p1 - p0)) = (p1 - p0) * (g.f * (b * d)) by grind]; exact r1
   ·rw [show b * d * (g.h * (p1 - p0)) = (p1 - p0) * (g.h * (b * d)) by grind]; exact r2
  ·rintro ⟨q1, q2⟩
   have r1 := zY q1 (zx hbd)
   have r2 := zY q2 (zx hbd)
   rw [← k] at r1 r2
   refine ⟨zZ (a := p1 - p0) ?_ hS, zZ (a := p1 - p0) ?_ hS⟩
   ·rw [show (p1 - p0) * (g.f * (b * d)) = b * d * (g.f * (p1 - p0)) by grind]; exact r1
   ·rw [show (p1 - p0) * (g.h * (b * d)) = b * d * (g.h * (p1 - p0)) by grind]; exact r2
 ·show a * d + c * p0 * b - h0 * b * d = 0
  have k := key p0
  have hz : (p1 - p0) * (a * d + c * p0 * b - h0 * b * d) = 0 := by grind
  rcases Int.mul_eq_zero.mp hz with z | z
  ·lia
  ·exact z
 ·show a * d + c * p1 * b - h1 * b * d = 0
  have k := key p1
  have hz : (p1 - p0) * (a * d + c * p1 * b - h1 * b * d) = 0 := by grind
  rcases Int.mul_eq_zero.mp hz with z | z
  ·lia
  ·exact z
theorem PY {p0 h0 p1 h1 a b c d : Int} (b0 : p0.natAbs ≤ 1000) (b1 : h0.natAbs ≤ 1000) (b2 : p1.natAbs ≤ 1000) (b3 : h1.natAbs ≤ 1000) (L1 : Hf (h0 * (p1 - p0) - p0 * (h1 - h0)) (p1 - p0) a b) (L2 : Hf (h1 - h0) (p1 - p0) c d) : OkT ⟨a, b, c, d⟩ := by
 have m1 := CI (m := 1000) (n := 2000) b1 (show (p1 - p0).natAbs ≤ 2000 by clear L1 L2 b1 b3; lia)
 have m2 := CI (m := 1000) (n := 2000) b0 (show (h1 - h0).natAbs ≤ 2000 by clear L1 L2 m1 b0 b2; lia)
 have t1 : (h0 * (p1 - p0) - p0 * (h1 - h0)).natAbs ≤ 1000 * 2000 + 1000 * 2000 := zL (Int.natAbs_sub_le _ _) (Nat.add_le_add m1 m2)
 have s1 : (p1 - p0).natAbs ≤ 2000 := by clear m1 m2 t1 L1 L2 b1 b3; lia
 have s2 : (h1 - h0).natAbs ≤ 2000 := by clear m1 m2 t1 L1 L2 b0 b2; lia
 exact ⟨zL L1.absx (zL t1 (by decide)), zL L1.absy (zL s1 (by decide)), zL L2.absx (zL s2 (by decide)), zL L2.absy (zL s1 (by decide)), L1.pos, L2.pos, L1.one, L2.one⟩
noncomputable def LeR (x y u v : G) : Prop := (y.h - x.f) * (v.p - u.p) ≤ (v.h - u.f) * (y.p - x.p)
theorem LeR.refl (x y : G) : LeR x y x y := Int.le_refl _
theorem LeR.trans {x y u v u' v' : G} (l0 : x.p < y.p) (l1 : u.p < v.p) (l2 : u'.p < v'.p) (h1 : LeR x y u v) (h2 : LeR u v u' v') : LeR x y u' v' := by
 unfold LeR at *
 have r1 := zF h1 (show 0 ≤ v'.p - u'.p by lia)
 have r2 := zF h2 (show 0 ≤ y.p - x.p by lia)
 refine zZ (a := v.p - u.p) ?_ (by lia)
 have e1 : (v.p - u.p) * ((y.h - x.f) * (v'.p - u'.p)) = (y.h - x.f) * (v.p - u.p) * (v'.p - u'.p) := by grind
 have e2 : (v.p - u.p) * ((v'.h - u'.f) * (y.p - x.p)) = (v'.h - u'.f) * (v.p - u.p) * (y.p - x.p) := by grind
 have e3 : (v.h - u.f) * (y.p - x.p) * (v'.p - u'.p) = (v.h - u.f) * (v'.p - u'.p) * (y.p - x.p) := by grind
 rw [e1, e2]
 rw [e3] at r1
 exact Int.le_trans r1 r2
structure SG (H : Hp) (D : Addr) (gs : List G) (q : Addr) (t : Thr) (x y : G) : Prop where
 eD : H D = some (.tup [.ref q, .int x.p, .int y.p])
 eq : H q = some (.tup t.vs)
 ok : OkT t
 all : ∀ g ∈ gs, t.pas g
 hx : x ∈ gs
 hy : y ∈ gs
 lt : x.p < y.p
 tx : t.gap x.p x.f = 0
 ty : t.gap y.p y.h = 0
theorem Ho {gs : List G} (ha : Asc gs) (ok : ∀ g ∈ gs, OkG g) {x y : G} (hx : x ∈ gs) (hy : y ∈ gs) (lt : x.p < y.p) (least : ∀ x' ∈ gs, ∀ y' ∈ gs, x'.p < y'.p → LeR x y x' y') (hn : ¬ ∀ g ∈ gs, Gh (x.f * y.p - y.h * x.p) (y.h - x.f) (y.p - x.p) g) : ¬ EC gs := fun nb =>
 hn (LS ok hx hy lt least (fun g hg g' hg' e => Kj ha hg hg' e) (fun m hm l z => Ga ha nb hm hx hy l lt (.inl z)) (fun m hm l z => Ga ha nb hx hy hm lt l (.inr z)))
theorem M6 {gs sg : List G} (hp : sg.Perm gs) (ha : Asc sg) (hb : ¬ EC sg) {t : List Int} (h : Hs gs t) : t ≠ [] := by
 rcases h with ⟨sg', hp', ha', hn, rfl⟩ | ⟨_, _, _, _, _, _, _, _, _, _, _, _, _, rfl⟩
 ·have e := GJ ha' ha (hp'.trans hp.symm)
  subst e
  exact absurd hn hb
 ·simp
noncomputable def CD (g : G) : G := ⟨g.p, -g.h, -g.f⟩
noncomputable def Ng (t : Thr) : Thr := ⟨-t.a, t.b, -t.c, t.d⟩
theorem Sk {g : G} (h : OkG g) : OkG (CD g) := by
 obtain ⟨h1, h2, h3, h4, h5⟩ := h
 exact ⟨h1, h2, by show -1000 ≤ -g.h; lia, by show -g.h ≤ -g.f; lia, by show -g.f ≤ 1000; lia⟩
theorem RD {t : Thr} (h : OkT t) : OkT (Ng t) := by
 obtain ⟨h1, h2, h3, h4, h5, h6, h7, h8⟩ := h
 exact ⟨by show (-t.a).natAbs ≤ _; lia, h2, by show (-t.c).natAbs ≤ _; lia, h4, h5, h6, by show Int.gcd (-t.a) t.b = 1; rw [Int.neg_gcd]; exact h7, by show Int.gcd (-t.c) t.d = 1; rw [Int.neg_gcd]; exact h8⟩
theorem RT {t : Thr} {g : G} : (Ng t).pas g ↔ t.pas (CD g) := by
 show Pas (-t.a) t.b (-t.c) t.d g.p g.f g.h ↔ Pas t.a t.b t.c t.d g.p (-g.h) (-g.f)
 unfold Pas
 have e1 : -t.a * t.d + g.p * -t.c * t.b = -(t.a * t.d + g.p * t.c * t.b) := by grind
 have e2 : -g.h * (t.b * t.d) = -(g.h * (t.b * t.d)) := by grind
 have e3 : -g.f * (t.b * t.d) = -(g.f * (t.b * t.d)) := by grind
 rw [e1, e2, e3]
 generalize t.a * t.d + g.p * t.c * t.b = A
 generalize g.h * (t.b * t.d) = B
 generalize g.f * (t.b * t.d) = C
 constructor <;> (rintro ⟨h1, h2⟩; exact ⟨by lia, by lia⟩)
theorem Nk {t : Thr} {p h : Int} (z : t.gap p (-h) = 0) : (Ng t).gap p h = 0 := by
 have z : t.a * t.d + t.c * p * t.b - -h * t.b * t.d = 0 := z
 show -t.a * t.d + -t.c * p * t.b - h * t.b * t.d = 0
 grind
theorem Q7 {gs : List G} (h : Asc gs) : Asc (gs.map CD) := by
 unfold Asc
 rw [zz]
 exact h
theorem P6 {a b c : G} : LK (CD a) (CD b) (CD c) ↔ LK a b c := by
 have e1 : Bl (CD a) (CD b) (CD c) ↔ Bs a b c := by
  show -a.f * (c.p - b.p) + -c.f * (b.p - a.p) < -b.h * (c.p - a.p) ↔ b.h * (c.p - a.p) < a.f * (c.p - b.p) + c.f * (b.p - a.p)
  have q1 : -a.f * (c.p - b.p) + -c.f * (b.p - a.p) = -(a.f * (c.p - b.p) + c.f * (b.p - a.p)) := by grind
  have q2 : -b.h * (c.p - a.p) = -(b.h * (c.p - a.p)) := by grind
  rw [q1, q2]
  generalize a.f * (c.p - b.p) + c.f * (b.p - a.p) = A
  generalize b.h * (c.p - a.p) = B
  constructor <;> (intro h; lia)
 have e2 : Bs (CD a) (CD b) (CD c) ↔ Bl a b c := by
  show -b.f * (c.p - a.p) < -a.h * (c.p - b.p) + -c.h * (b.p - a.p) ↔ a.h * (c.p - b.p) + c.h * (b.p - a.p) < b.f * (c.p - a.p)
  have q1 : -a.h * (c.p - b.p) + -c.h * (b.p - a.p) = -(a.h * (c.p - b.p) + c.h * (b.p - a.p)) := by grind
  have q2 : -b.f * (c.p - a.p) = -(b.f * (c.p - a.p)) := by grind
  rw [q1, q2]
  generalize a.h * (c.p - b.p) + c.h * (b.p - a.p) = A
  generalize b.f * (c.p - a.p) = B
  constructor <;> (intro h; lia)
 unfold LK
 rw [e1, e2]
 exact Or.comm
theorem Oo {gs : List G} (h : EC gs) : EC (gs.map CD) := fun i j k ⟨h1, h2, a, b, c, e1, e2, e3, hb⟩ => by
 rw [zG] at e1 e2 e3
 obtain ⟨a', f1, rfl⟩ := za.mp e1
 obtain ⟨b', f2, rfl⟩ := za.mp e2
 obtain ⟨c', f3, rfl⟩ := za.mp e3
 exact h i j k ⟨h1, h2, a', b', c', f1, f2, f3, P6.mp hb⟩
end TG
namespace L2
open PySem PySem.Spec PyProof.Rows
theorem B4.here {P : Program} {w : World} {H : Hp} {h : Heap} {a : Addr} {o : HO} (x : B4 P w H h a o) : ∃ ob, h.get? a = some ob := by
 cases q : h.get? a with
 | some ob => exact ⟨ob, rfl⟩
 | none =>
  exfalso
  have x' : B4 P w H h a o := x
  induction o with
  | lst xs => obtain ⟨_, _, _, _, e⟩ := x'; rw [q] at e; cases e
  | tup xs => obtain ⟨_, _, _, o, e, _⟩ := x'; rw [q] at e; cases e
  | dK kvs => obtain ⟨_, _, _, _, o, _, _, e, _⟩ := x'; rw [q] at e; cases e
  | dT kvs => obtain ⟨_, _, _, _, o, _, _, e, _⟩ := x'; rw [q] at e; cases e
  | set S n => obtain ⟨o, _, _, _, e, _⟩ := x'; rw [q] at e; cases e
  | ins C dx fs => obtain ⟨_, _, _, e, _⟩ := x'; rw [q] at e; cases e
  | own b => obtain ⟨o, e⟩ := x'; rw [q] at e; cases e
  | xd fs => obtain ⟨_, ⟨o, _, _, e, _⟩, _⟩ := x'; rw [q] at e; cases e
  | rng lo hi => obtain ⟨_, _, _, e⟩ := x'; rw [q] at e; cases e
  | frz o u ih => exact ih x'.2 x'.2
  | tbl ps => have e : h.get? a = _ := x'; rw [q] at e; cases e
  | met f y => have e : h.get? a = _ := x'; rw [q] at e; cases e
  | ext φ => obtain ⟨_, ⟨o, e⟩, _⟩ := x'; rw [q] at e; cases e
noncomputable def Fly (l : List Env) (hs : Heap) (H' : Hp) (ea : Addr) (cls : Value) (h : Heap) : Prop :=
 ∃ (B : Heap) (a0 : Value), Heap.FlyingW B l ea cls a0 h ∧ (∀ b o, hs.get? b = some o → b ∉ frs l → ∃ o', B.get? b = some o') ∧ ∀ b, H' b ≠ none → ∃ o', B.get? b = some o'
noncomputable def CXE (P : Program) (w : World) : CXT := fun outer H s E e s' => ∃ (ea : Addr) (cls : Value) (H' : Hp), e = .ref ea ∧ s'.os = s.os ∧ AllBare s'.gens ∧ Un (frs outer) [] H H' s.heap s'.heap ∧ HOk P w H' s'.heap ∧ Fly outer s.heap H' ea cls s'.heap ∧ E cls none H'
section
variable {X : Cx} {pins : List (Addr × Obj)} {σ σ1 : St} {H H1 H' : Hp} {s s1 s' : Shared} {h' B : Heap} {ea : Addr} {cls : Value}
theorem Inv.notStack (I : Inv X pins σ H s) {b : Addr} {o : Obj} (e : X.s₀.heap.get? b = some o) (hb : b ∉ X.fs) : b ∉ frs X.stack := fun hm => by
 rcases zH.mp (I.stkSub b hm) with z | z
 ·exact absurd (z9 (zA e) I.ok.above) (by rw [z]; exact zf _)
 ·exact hb z
theorem Inv.fly (I1 : Inv X pins σ1 H1 s1) (I : Inv X pins σ H s) (hB : B.StaysIn s.heap) (hB' : B.StaysIn h') (up : s.heap.UpToSlots h')
  (c1 : ∀ b o, s1.heap.get? b = some o → b ∉ frs X.stack → ∃ o', B.get? b = some o') (c2 : ∀ b, H b ≠ none → ∃ o', B.get? b = some o') : Inv X pins σ H { s with heap := h' } := by
 have via : ∀ b o, s.heap.get? b = some o → (∃ o', B.get? b = some o') → h'.get? b = some o := fun b o e ⟨o', eb⟩ => by
  have := hB b o' eb
  rw [e] at this
  cases this
  exact hB' b o eb
 have slot : ∀ b o, X.s₀.heap.get? b = some o → X.H₀ b = none → b ∈ X.fs → b ∉ X.ex → ∃ sl, h'.get? b = some { o with slots := sl } := fun b o e n hb hx => by
  obtain ⟨sl, e1⟩ := I.base.slot b o e n hb hx
  obtain ⟨_, of, hof, hnf⟩ := I.ok.funs.mem hb
  rw [e] at hof
  cases hof
  obtain ⟨sl', e2⟩ := up b _ e1 hnf
  exact ⟨sl', e2⟩
 have cellK : ∀ c v, s.heap.IsCell c v → h'.IsCell c v := fun c v ⟨o, ho, hd⟩ => by
  obtain ⟨sl, e⟩ := up c o ho (fun vs q => by rw [hd] at q; cases q)
  exact ⟨_, e, hd⟩
 refine ⟨I.ok, I.os, I.bare, ⟨fun b o e n hb hx => ?_, slot, I.base.free, fun b o e hx => ?_, I.base.tups, I.base.frzs, I.base.tbls⟩, ?_, fun x c e => ?_, I.free, I.freeC, fun p hp => ?_, fun b u e => ?_, I.len⟩
 ·exact via b o (I.base.keep b o e n hb hx) (c1 b o (I1.base.keep b o e n hb hx) (I.notStack e hb))
 ·by_cases hb : b ∈ X.fs
  ·obtain ⟨sl, q⟩ := slot b o e (I.ok.frf b hb) hb hx
   exact ⟨_, q⟩
  ·obtain ⟨o1, a1⟩ := I1.base.there b o e hx
   obtain ⟨o', eb⟩ := c1 b o1 a1 (I.notStack e hb)
   exact ⟨o', hB' b o' eb⟩
 ·obtain ⟨m, hn, hl⟩ := I.loc
  refine ⟨m, up.ns hn, fun i x v e1 e2 e3 => ?_⟩
  obtain ⟨u, r, l⟩ := hl i x v e1 e2 e3
  refine ⟨u, r, ?_⟩
  rcases l with l | ⟨k, c, e, z⟩
  ·exact .inl l
  ·exact .inr ⟨k, c, e, cellK c _ z⟩
 ·obtain ⟨v, z⟩ := I.cell x c e
  exact ⟨v, cellK c v z⟩
 ·obtain ⟨e, n, ne, nf, d⟩ := I.pin p hp
  refine ⟨via p.1 p.2 e (c1 p.1 p.2 (I1.pin p hp).1 fun hm => ?_), n, ne, nf, d⟩
  rcases zH.mp (I.stkSub _ hm) with z | z
  ·exact ne z
  ·exact nf z
 ·refine (I.hok b u e).stay (fun c v hc q => via c v q (c2 c ?_)) (fun _ q => q) fun _ _ q => q
  rcases hc with z | z
  ·rw [z, e]; simp
  ·rw [z]; simp
structure Arr (X : Cx) (pins : List (Addr × Obj)) (σ : St) (ea : Addr) (cls : Value) (H' : Hp) (s' : Shared) : Prop where
 inv : Inv X pins σ H' s'
 fly : ∃ (H1 : Hp) (s1 : Shared), Inv X pins σ H1 s1 ∧ Fly X.stack s1.heap H' ea cls s'.heap
theorem RW {E : XK} {e : Value} (I : Inv X pins σ H s) (h : CXE X.prog X.w X.stack H s E e s') : ∃ ea cls H', e = .ref ea ∧ Arr X pins σ ea cls H' s' ∧ E cls none H' := by
 obtain ⟨ea, cls, H', rfl, os, bare, un, hok, fl, hE⟩ := h
 exact ⟨ea, cls, H', rfl, ⟨I.call' (ch := []) os un hok bare (fun b z => absurd z (by simp)), H, s, I, fl⟩, hE⟩
end
section
variable {P : Program} {w : World} {K : W.Frag} {mg : Str → Option Value} {base : Heap} {N : List Str} {qual : Str} {scope : Scope} {f : Addr} {cd : Value} {A : Around} {outer : List Env} {s : Shared} {H : Hp} {E : XK}
 {pins : List (Addr × Obj)} {σ : St} {H1 H' : Hp} {s1 s' : Shared} {ea : Addr} {cls : Value} {h' : Heap} {args : List Value}
theorem UF (a : Arr (A9 (CXE P w) P w K mg base N qual scope f cd A outer s H E) pins σ ea cls H' s') (hE : E cls none H') : (A9 (CXE P w) P w K mg base N qual scope f cd A outer s H E).xe (.ref ea) s' := by
 obtain ⟨I, H1, s1, I1, B, a0, fl, c1, c2⟩ := a
 refine wpAny_leaves_onW (A := A.deeper (envOfC qual scope s.heap.objs.size f cd)) (env := envOfC qual scope s.heap.objs.size f cd) (outer := outer) I.ok.frames rfl fl fun h' fl' up => ?_
 have I2 := Inv.fly I1 I fl.1 fl'.1 up c1 c2
 refine ⟨ea, cls, H', rfl, I2.os, I2.bare, I2.base, I2.hok, ⟨B, a0, fl', fun b o e hb => ?_, c2⟩, hE⟩
 obtain ⟨o1, a1⟩ := I1.base.there b o e (fun z => absurd (show b ∈ ([] : List Addr) from z) (by simp))
 exact c1 b o1 a1 (I.notStack e hb)
theorem Rv (I : Inv (A9 (CXE P w) P w K mg base N qual scope f cd A outer s H E) pins σ H1 s1) (hx : Heap.MadeExcOf s1.heap h' ea cls args) (hE : E cls none H1) : (A9 (CXE P w) P w K mg base N qual scope f cd A outer s H E).xe (.ref ea) { s1 with heap := h' } := by
 have hin : ∀ env ∈ (envOfC qual scope s.heap.objs.size f cd :: outer), ∀ b, env.frame = some b → b ∈ frs (envOfC qual scope s.heap.objs.size f cd :: outer) := fun env he b hb => List.mem_filterMap.mpr ⟨env, he, hb⟩
 have hfun : s1.heap.FunFrames (W.hideAll s1.heap (frs (envOfC qual scope s.heap.objs.size f cd :: outer))) (envOfC qual scope s.heap.objs.size f cd :: outer) := W.funFrames_hide I.stack hin
 have c1 : ∀ b o, s1.heap.get? b = some o → b ∉ frs (envOfC qual scope s.heap.objs.size f cd :: outer) → ∃ o', (W.hideAll s1.heap (frs (envOfC qual scope s.heap.objs.size f cd :: outer))).get? b = some o' := fun b o e hb => ⟨o, W.hideAll_get _ e hb⟩
 have c2 : ∀ b, H1 b ≠ none → ∃ o', (W.hideAll s1.heap (frs (envOfC qual scope s.heap.objs.size f cd :: outer))).get? b = some o' := fun b n => by
  cases q : H1 b with
  | none => exact absurd q n
  | some o =>
   obtain ⟨ob, e⟩ := (I.hok b o q).here
   exact ⟨ob, W.hideAll_get _ e fun z => by rw [I.stkFree b z] at q; cases q⟩
 refine wpAny_leaves_madeW (A := A.deeper (envOfC qual scope s.heap.objs.size f cd)) (s := { s1 with heap := h' }) (env := envOfC qual scope s.heap.objs.size f cd) (outer := outer) I.ok.frames rfl (fun b o q => W.of_hideAll _ q) hfun hx fun h'' t fl tup tn up => ?_
 have I' : Inv (A9 (CXE P w) P w K mg base N qual scope f cd A outer s H E) pins σ H1 { s1 with heap := h' } := I.kept (t' := s1.toks) hx.keeps
 have I2 := Inv.fly (h' := h'') I I' (fun b o q => hx.keeps b o (W.of_hideAll _ q)) fl.1 up c1 c2
 refine ⟨ea, cls, H1, rfl, I2.os, I2.bare, I2.base, I2.hok, ⟨_, _, fl, fun b o e hb => ?_, c2⟩, hE⟩
 obtain ⟨o1, a1⟩ := I.base.there b o e (fun z => absurd (show b ∈ ([] : List Addr) from z) (by simp))
 exact c1 b o1 a1 (I.notStack e hb)
theorem Al : Cp (CXE P w) (A9 (CXE P w) P w K mg base N qual scope f cd A outer s H E) E := fun pins σ H s e s' I h => by
 obtain ⟨ea, cls, H', rfl, arr, hE⟩ := RW I h
 exact UF arr hE
theorem Q4 : PassesOwn (model P w) (A9 (CXE P w) P w K mg base N qual scope f cd A outer s H E).A (A9 (CXE P w) P w K mg base N qual scope f cd A outer s H E).env (A9 (CXE P w) P w K mg base N qual scope f cd A outer s H E).xe := PassesOwn.leaving (Q₁ := fun e s'' => CXE P w outer H s E e s'')
theorem Fun.okX {x qual : Str} {st : Stmt} {f : Addr} {fd : FuncData} {N ps : List Str} {k : Nat} {sp : Sp} (F : Fun K x qual st f fd) (S : AL N ps (AF st)) (len : ∀ vs H Q E, sp vs H Q E → vs.length = ps.length)
  (hbody : ∀ (cdv : Value) (A : Around) (outer : List Env) (s : Shared) (H : Hp) (vs : List V) (Q : VK) (E : XK), BY k (A.deeper (envOfC qual (AF st) s.heap.objs.size f cdv)) → sp vs H Q E →
   ∃ t, PSs (A9 (CXE P w) P w K mg base N qual (AF st) f cdv A outer s H E) (BD st) t ∧ t { nx := fun _ H' => Q .non H', rt := Q } (start N vs) H) : Aj P w K mg base (CXE P w) (k + 1) f fd ps sp := by
 obtain ⟨oc, od, kV, doc, pm, an, cdv, ct, osl, rfl, lk, hcd⟩ := F.ex
 exact PK lk hcd S len fun A outer s H vs Q E hr hsp => hbody cdv A outer s H vs Q E hr hsp
end
structure DM (K : W.Frag) (C : Addr) (x qual : Str) (st : Stmt) (ps : List Str) (f : Addr) (fd : FuncData) : Prop where
 F : Fun K x qual st f fd
 mt : Pn K C x f
 b : Binds K fd ps []
noncomputable abbrev bmV : List Value := [.type "ValueError", .type "Exception", .type "BaseException", .type "object"]
noncomputable abbrev EE (K : W.Frag) (C : Addr) : Prop := W.excIn K C bmV "ValueError.__new__" = true
theorem toArr {α : Type} {sl : Array α} {l : List α} (e : sl.toList = l) : sl = l.toArray := by rw [← e]
theorem EE.rec {K : W.Frag} {C : Addr} (q : EE K C) : ∃ (dd : Option Addr) (cd : ClassData) (bm : List Value) (k0 k1 k2 k3 k5 : Option Value),
  K.lookup C = some ⟨.type "type", dd, .cls cd, #[k0, k1, k2, k3, some (.builtin "ValueError.__new__"), k5]⟩ ∧ cd.mro = .ref C :: bm ∧ cd.hasDel = false ∧ W.tailIn K bmV bm = true ∧ W.nsOkIn K cd.ns = true ∧ W.nsIn K cd.ns "__init__" = some none := by
 simp only [EE, W.excIn] at q
 repeat' split at q
 all_goals first | exact absurd q zN | skip
 next dd cd sl hK mr ll C' bm k0 k1 k2 k3 n k5 e1 e2 =>
  rw [toArr e2] at hK
  simp only [q9] at q
  obtain ⟨⟨⟨⟨⟨h1, h2⟩, h3⟩, h4⟩, h5⟩, h6⟩ := q
  have h1 : C' = C := by simpa using h1
  have h2 : n = "ValueError.__new__" := by simpa using h2
  subst h1 h2
  exact ⟨dd, cd, bm, k0, k1, k2, k3, k5, hK, e1, by simpa using h3, h4, h5, by simpa using h6⟩
theorem EE.own {K : W.Frag} {C : Addr} {x : Str} {mg : Str → Option Value} {h : Heap} (q : EE K C) (X : K.In h) (hm : mg x = some (.ref C)) : OwnCls x C bmV "ValueError.__new__" mg h := by
 obtain ⟨dd, cd, bm, k0, k1, k2, k3, k5, hK, e1, e2, e3, e4, e5⟩ := q.rec
 have ns : h.Ns cd.ns (h.nsMap cd.ns) := .of_isNs (W.isNs_of_in X e4)
 have no : h.nsMap cd.ns "__init__" = none := W.nsMap_none_of_in X e4 e5
 have tl := W.tail_of_in X e3
 rcases cd with ⟨a1, a2, a3, a4, a5, a6, a7, a8, a9, a10, a11⟩
 simp only at e1 e2
 subst e1 e2
 exact ⟨hm, bm, a4, a1, a5, a2, a6, a7, a8, a9, a10, dd, k0, k1, k2, k3, k5, _, X _ _ hK, ns, no, tl⟩
noncomputable def S3 (X : Cx) (E : XK) : Prop := ∀ (pins : List (Addr × Obj)) (σ : St) (H : Hp) (s : Shared) (h' : Heap) (ea : Addr) (cls : Value) (args : List Value), Inv X pins σ H s → Heap.MadeExcOf s.heap h' ea cls args → E cls none H → X.xe (.ref ea) { s with heap := h' }
theorem Cf {P : Program} {w : World} {K : W.Frag} {mg : Str → Option Value} {base : Heap} {N : List Str} {qual : Str} {scope : Scope} {f : Addr} {cd : Value} {A : Around} {outer : List Env} {s : Shared} {H : Hp} {E : XK} : S3 (A9 (CXE P w) P w K mg base N qual scope f cd A outer s H E) E := fun _ _ _ _ _ _ _ _ I hx hE => Rv I hx hE
section
variable {X : Cx} {E : XK} {x : Str} {C : Addr} {np cpos pos : Pos} {e : Expr} {es : List Expr} {t : TA}
noncomputable def Hh (C : Addr) (E : XK) (t : TA) : TS := fun _ σ H => t σ H fun vs H1 => vs.length ≤ sizeLine ∧ E (.ref C) none H1
theorem A6 (hp : S3 X E) (hc : X.calm = true) (q : EE X.K C) (hg : Gl X x) (hm : X.mg x = some (.ref C)) (ha : PA X (e :: es) t) (hdb : (x == ("__debug__" : Str)) = false := by decide)
  (he : starEach (e :: es) X.env = (false, eval e X.env) :: starEach es X.env := by rfl) (hpl : (backTo cpos (starEach es X.env)).any (·.1) = false := by rfl) :
  PS X (.Raise (some (.Call (.Name x np) (e :: es) [] cpos)) none pos) (Hh C E t) := by
 intro pins s σ H D I h
 obtain ⟨tl, N, nm, q', bs, hdct, sn, sub, ab, col, dd, k0, k1, k2, k3, k5, mN, hC, hN, hni, T⟩ := (EE.own q I.mod.kin hm).obj
 refine wpAny_Raise_call_subT (C := C) (nm := nm) (q := q') (N := N) (bs := bs) (bm := tl) (hdct := hdct) (sn := sn) (sub := sub) (ab := ab) (col := col) (dd := dd) (k0 := k0) (k1 := k1) (k2 := k2) (k3 := k3) (k5 := k5)
  PySem.F.excBase_ValueError (mN := mN) (T.hasType PySem.F.excBase_ValueError.hasBase) (I.ok.hd hc) (by rw [he]; show (false || (backTo cpos (starEach es X.env)).any (·.1)) = false; rw [hpl]; rfl) hni (E2 I hg hm ⟨rfl, ?_⟩ hdb)
 have hs := ha cpos pins s σ H _ I h
 rw [he] at hs ⊢
 refine Calls.evalArgs_plain (thn hs fun us s1 zq => ?_)
 obtain ⟨vs, H1, I1, r, z, hE⟩ := zq
 exact ⟨rfl, by rw [← r.length]; exact z, I1.bk _ _ hC, hN.keeps I1.bk, T.keeps I1.bk, fun h' ea hx => hp pins σ H1 s1 h' ea (.ref C) us I1 hx hE⟩
end
noncomputable def Jx (X : Cx) (N : Value → St → Hp → Prop) : Prop := ∀ (pins : List (Addr × Obj)) (σ : St) (H : Hp) (s : Shared) (e : Value) (s' : Shared), Inv X pins σ H s → CXE X.prog X.w X.stack H s (fun cls _ H' => N cls σ H') e s' → X.xe e s'
section
variable {X : Cx} {k : Nat} {f C : Addr} {fd : FuncData} {ps : List Str} {sp : Sp} {dvs : List V} {ds : List Value} {N : Value → St → Hp → Prop} {x m : Str} {p pos apos : Pos} {e o : Expr} {es : List Expr} {ta : TE} {t : TA}
theorem PD {pins : List (Addr × Obj)} {σ : St} {H : Hp} {s : Shared} {Q : VK} {us : List Value} {vs : List V} (F : Aj X.prog X.w X.K X.mg X.base (CXE X.prog X.w) k f fd ps sp) (hr : BY k X.A) (hb : Binds X.K fd ps ds) (hd : Ae dvs ds) (hx : Jx X N)
  (I : Inv X pins σ H s) (r : Ae vs us) (h : sp (vs ++ dvs) H Q (fun cls _ H' => N cls σ H')) : wpAny (model X.prog X.w) X.A (call (.ref f) us) (EP X pins σ Q) X.xe s := by
 have r2 : Ae (vs ++ dvs) (us ++ ds) := r.append hd
 have hl : (us ++ ds).length = ps.length := by rw [← r2.length]; exact F.len _ _ _ _ h
 refine wpAny_call (codeAny_mono (F.run X.A X.stack s H ⟨us, []⟩ (us ++ ds) (vs ++ dvs) Q _ hr I.env0 (hb s us I.kIn hl) r2 h) fun r s' hq => ?_)
 cases r with
 | error e => exact hx pins σ H s e s' I hq
 | ok fl =>
  cases fl with
  | ret u => exact I.after hq
  | next => exact False.elim hq
  | brk => exact False.elim hq
  | cont => exact False.elim hq
noncomputable def RB (sp : Sp) (dvs : List V) (N : Value → St → Hp → Prop) (t : TA) : TE := fun σ H Q => t σ H fun vs H1 => sp (vs ++ dvs) H1 Q (fun cls _ H' => N cls σ H')
noncomputable def Qd (C : Addr) (m : Str) (sp : Sp) (dvs : List V) (N : Value → St → Hp → Prop) (ta : TE) (t : TA) : TE := fun σ H Q => ta σ H fun x H1 => ∃ a dx fs, x = .ref a ∧ H1 a = some (.ins C dx fs) ∧ fs.lookup m = none ∧
 t σ H1 fun vs H2 => sp (x :: (vs ++ dvs)) H2 Q (fun cls _ H' => N cls σ H')
theorem LZ (F : Aj X.prog X.w X.K X.mg X.base (CXE X.prog X.w) k f fd ps sp) (hr : BY k X.A) (hg : Gl X x) (hm : X.mg x = some (.ref f)) (hk : W.keepIn X.K (.ref f) = true) (hb : Binds X.K fd ps ds) (hd : Ae dvs ds) (hx : Jx X N)
  (ha : PA X (e :: es) t) (hdb : (x == ("__debug__" : Str)) = false := by decide) (he : starEach (e :: es) X.env = (false, eval e X.env) :: starEach es X.env := by rfl) (hpl : (backTo pos (starEach es X.env)).any (·.1) = false := by rfl) :
  PE X (.Call (.Name x p) (e :: es) [] pos) (RB sp dvs N t) := by
 intro pins s σ H Q I h
 refine wpAny_Call_Name_kw (E2 I hg hm ?_ hdb)
 refine W.callWith_K (h₀ := X.base) I.ok.mod.kin hk (thn (ha pos pins s σ H _ I h) fun us s1 ⟨vs, H1, I1, r, q⟩ => ⟨I1.kIn, ?_⟩) he hpl
 exact PD F hr hb hd hx I1 r q
theorem Ro {pl : Sem Bool} (he : PE X o ta) (c : Cls X.K C) (hm : Pn X.K C m f) (F : Aj X.prog X.w X.K X.mg X.base (CXE X.prog X.w) k f fd ps sp) (hr : BY k X.A) (hb : Binds X.K fd ps ds) (hd : Ae dvs ds) (hx : Jx X N) (ha : PA X (e :: es) t)
  (hst : starEach (e :: es) X.env = (false, eval e X.env) :: starEach es X.env := by rfl) (hpl : (backTo pos (starEach es X.env)).any (·.1) = false := by rfl)
  (ht : eval (.Call (.Attribute o m apos) (e :: es) [] pos) X.env = (do
   let ov ← eval o X.env
   standAt apos.atName
   let (f, first) ← holding [ov] (getMethod ov m pl)
   callWith pos f first (backTo pos (starEach (e :: es) X.env)) (backToKw pos (keywordEach [] X.env))) := by rfl) :
  PE X (.Call (.Attribute o m apos) (e :: es) [] pos) (Qd C m sp dvs N ta t) := by
 intro pins s σ H Q I h
 refine W.methodCall_KW (pl := pl) (thn (he pins s σ H _ I h) fun u s1 ⟨x, H1, I1, rx, a, dx, fs, ex, ea, l, q⟩ => ?_) ht
 subst ex
 obtain rfl : u = Value.ref a := rx
 refine He I1 ea c hm l ?_
 refine W.callWith_K (first := [.ref a]) (h₀ := X.base) I.ok.mod.kin hm.kp (thn (ha pos pins s1 σ H1 _ I1 q) fun us s2 ⟨vs, H2, I2, r, q2⟩ => ⟨I2.kIn, ?_⟩) hst hpl
 exact PD (us := .ref a :: us) (vs := .ref a :: vs) F hr hb hd hx I2 (.cons rfl r) q2
end
noncomputable abbrev Cx.caught (X : Cx) (e : Value) (pn : List (Addr × Obj)) : Cx := { X with A := X.A.mark (some e), calm := false, pn := pn, xe := fun _ _ => False }
noncomputable abbrev Cx.trying (X : Cx) (pn : List (Addr × Obj)) (E : Value → Shared → Prop) : Cx := { X with pn := pn, xe := E }
theorem Inv.caught {X : Cx} {pins : List (Addr × Obj)} {σ : St} {H : Hp} {s : Shared} (I : Inv X pins σ H s) (e : Value) : Inv (X.caught e (X.pn ++ pins)) [] σ H s :=
 ⟨⟨I.ok.mod, I.ok.kind, I.ok.glob, I.ok.blt, I.ok.above, I.ok.inj, I.ok.has, I.ok.cab, (fun z => nomatch z), I.ok.frames, I.ok.stk, I.ok.exf, I.ok.bs, I.ok.bsz, I.ok.noex, I.ok.exfs, I.ok.funs, I.ok.frf⟩, I.os, I.bare, I.base, I.loc, I.cell, I.free, I.freeC, fun p hp => I.pin p (by simpa using hp), I.hok, I.len⟩
theorem Inv.uncaught {X : Cx} {pins : List (Addr × Obj)} {σ : St} {H : Hp} {s : Shared} {e : Value} (ok : X.Ok) (I : Inv (X.caught e (X.pn ++ pins)) [] σ H s) : Inv X pins σ H s :=
 ⟨ok, I.os, I.bare, I.base, I.loc, I.cell, I.free, I.freeC, fun p hp => I.pin p (by simpa using hp), I.hok, I.len⟩
theorem Inv.trying {X : Cx} {pins : List (Addr × Obj)} {σ : St} {H : Hp} {s : Shared} (I : Inv X pins σ H s) (E : Value → Shared → Prop) : Inv (X.trying (X.pn ++ pins) E) [] σ H s :=
 ⟨⟨I.ok.mod, I.ok.kind, I.ok.glob, I.ok.blt, I.ok.above, I.ok.inj, I.ok.has, I.ok.cab, I.ok.hd, I.ok.frames, I.ok.stk, I.ok.exf, I.ok.bs, I.ok.bsz, I.ok.noex, I.ok.exfs, I.ok.funs, I.ok.frf⟩, I.os, I.bare, I.base, I.loc, I.cell, I.free, I.freeC, fun p hp => I.pin p (by simpa using hp), I.hok, I.len⟩
theorem Inv.tried {X : Cx} {pins more : List (Addr × Obj)} {σ : St} {H : Hp} {s : Shared} {E : Value → Shared → Prop} (ok : X.Ok) (I : Inv (X.trying (X.pn ++ pins) E) more σ H s) : Inv X pins σ H s :=
 ⟨ok, I.os, I.bare, I.base, I.loc, I.cell, I.free, I.freeC, fun p hp => I.pin p (zy _ hp), I.hok, I.len⟩
section
variable {X : Cx} {pins : List (Addr × Obj)} {D : Hr}
theorem SP.map {X Y : Cx} {pins pins' : List (Addr × Obj)} {D : Hr} {f : Flow} {s : Shared} (k : ∀ σ H, Inv X pins σ H s → Inv Y pins' σ H s) (h : SP X pins D f s) : SP Y pins' D f s := by
 cases f with
 | next => obtain ⟨σ, H, I, q⟩ := h; exact ⟨σ, H, k _ _ I, q⟩
 | brk => obtain ⟨σ, H, I, q⟩ := h; exact ⟨σ, H, k _ _ I, q⟩
 | cont => obtain ⟨σ, H, I, q⟩ := h; exact ⟨σ, H, k _ _ I, q⟩
 | ret u => obtain ⟨v, σ, H, I, r, q⟩ := h; exact ⟨v, σ, H, k _ _ I, r, q⟩
noncomputable def lookX (X : Cx) (pins : List (Addr × Obj)) (D : Hr) (hs : List ExceptHandler) : Value → Shared → Prop := fun e s1 => wpAny (model X.prog X.w) X.A (noteFrame e X.env) (fun _ s2 => wpAny (model X.prog X.w) X.A (setFlight e none) (fun _ s3 =>
 wpAny (model X.prog X.w) X.A (handleBy e X.env hs) (SP X pins D) X.xe s3) X.xe s2) X.xe s1
end
section
variable {X : Cx}
end
theorem len0 {α : Type} {us : List α} (h : us.length = 0) : us = [] := List.length_eq_zero_iff.mp h
theorem QE {α : Type} {us : List α} {n : Nat} (h : us.length = n + 1) : ∃ a r, us = a :: r ∧ r.length = n := by
 cases us with
 | nil => cases h
 | cons a r => exact ⟨a, r, rfl, Nat.succ.inj h⟩
theorem VD {α : Type} {us : List α} (h : us.length = 1) : ∃ a, us = [a] := by
 obtain ⟨a, r, rfl, h'⟩ := QE h; cases len0 h'; exact ⟨a, rfl⟩
theorem T8 {α : Type} {us : List α} (h : us.length = 2) : ∃ a b, us = [a, b] := by
 obtain ⟨a, r, rfl, h'⟩ := QE h; obtain ⟨b, rfl⟩ := VD h'; exact ⟨a, b, rfl⟩
theorem len3 {α : Type} {us : List α} (h : us.length = 3) : ∃ a b c, us = [a, b, c] := by
 obtain ⟨a, r, rfl, h'⟩ := QE h; obtain ⟨b, c, rfl⟩ := T8 h'; exact ⟨a, b, c, rfl⟩
theorem len4 {α : Type} {us : List α} (h : us.length = 4) : ∃ a b c d, us = [a, b, c, d] := by
 obtain ⟨a, r, rfl, h'⟩ := QE h; obtain ⟨b, c, d, rfl⟩ := len3 h'; exact ⟨a, b, c, d, rfl⟩
theorem len5 {α : Type} {us : List α} (h : us.length = 5) : ∃ a b c d e, us = [a, b, c, d, e] := by
 obtain ⟨a, r, rfl, h'⟩ := QE h; obtain ⟨b, c, d, e, rfl⟩ := len4 h'; exact ⟨a, b, c, d, e, rfl⟩
theorem len6 {α : Type} {us : List α} (h : us.length = 6) : ∃ a b c d e f, us = [a, b, c, d, e, f] := by
 obtain ⟨a, r, rfl, h'⟩ := QE h; obtain ⟨b, c, d, e, f, rfl⟩ := len5 h'; exact ⟨a, b, c, d, e, f, rfl⟩
end L2
namespace TG
open PySem L2
inductive Err where
 | nogate | taken | upside | bounds | full | deeds | nothing | badlist | few | size | badthrow | badrow
 deriving DecidableEq
noncomputable def Kp (b P : Addr) (H H' : Hp) : Prop := ∀ a u, a ≠ b → a ≠ P → H a = some u → H' a = some u
theorem Kp.of {b P : Addr} {H H' : Hp} (s : AI H H') : Kp b P H H' := fun a u _ _ e => s a u e
theorem Kp.trans {b P : Addr} {H H1 H2 : Hp} (k : Kp b P H H1) (k' : Kp b P H1 H2) : Kp b P H H2 := fun a u h1 h2 e => k' a u h1 h2 (k a u h1 h2 e)
theorem Kp.upd {b P a : Addr} {H H1 : Hp} {o : HO} (k : Kp b P H H1) (h : a = b ∨ a = P) : Kp b P H (L2.upd H1 a o) := fun c u h1 h2 e => by
 have hc : c ≠ a := by rcases h with rfl | rfl <;> assumption
 rw [AJ hc]
 exact k c u h1 h2 e
noncomputable def Qh (H : Hp) (l : Addr) (gs : List G) : Prop := ∃ as : List Addr, H l = some (.lst (as.map V.ref)) ∧ Aq H as gs
structure Std (gs : List G) : Prop where
 asc : Asc gs
 ok : ∀ g ∈ gs, OkG g
 len : gs.length ≤ 40
theorem QL {gs : List G} (h : Asc gs) : (gs.map G.p).Nodup := by
 unfold List.Nodup
 rw [zz]
 exact h.imp fun {a b} h z => by lia
theorem Std.nd {gs : List G} (h : Std gs) : (gs.map G.p).Nodup := QL h.asc
structure Bch (C : Addr) (H : Hp) (b S P : Addr) (ow : List Addr) (gs : List G) (past : List (List G)) : Prop where
 at_ : ∃ dx, H b = some (.ins C dx [("standing", .ref S), ("past", .ref P)])
 st : Qh H S gs
 pa : ∃ ps : List Addr, H P = some (.lst (ps.map V.ref)) ∧ Paired (Qh H) ps past ∧ (∀ p ∈ ps, p ∈ ow ∧ p ≠ P)
 sp : S ≠ P
 so : S ∈ ow
 po : P ∈ ow
 std : Std gs
 stds : ∀ x ∈ past, Std x
 len : past.length ≤ 300
 lv : ∀ a ∈ ow, ∃ xs, H a = some (.lst xs)
theorem Aq.keep {H H' : Hp} {as : List Addr} {gs : List G} (h : Aq H as gs) (k : ∀ a xs, H a = some (.tup xs) → H' a = some (.tup xs)) : Aq H' as gs := by
 unfold Aq at *
 induction h with
 | nil => exact .nil
 | cons e _ ih => exact .cons (k _ _ e) ih
theorem Qh.keep {H H' : Hp} {l : Addr} {gs : List G} (h : Qh H l gs) (kl : ∀ u, H l = some u → H' l = some u) (k : ∀ a xs, H a = some (.tup xs) → H' a = some (.tup xs)) : Qh H' l gs := by
 obtain ⟨as, e, g⟩ := h
 exact ⟨as, kl _ e, g.keep k⟩
theorem Paired.keepM {α β : Type} {F F' : α → β → Prop} : ∀ {xs : List α} {ys : List β}, Paired F xs ys → (∀ x y, x ∈ xs → F x y → F' x y) → Paired F' xs ys
 | _, _, .nil, _ => .nil
 | _, _, .cons e r, k => .cons (k _ _ zQ e) (Paired.keepM r fun x y h => k x y (zC _ h))
theorem Paired.takeP {α β : Type} {F : α → β → Prop} : ∀ {xs : List α} {ys : List β}, Paired F xs ys → ∀ n, Paired F (xs.take n) (ys.take n)
 | _, _, .nil, n => by simp only [List.take_nil]; exact .nil
 | _, _, .cons e r, 0 => .nil
 | _, _, .cons e r, n + 1 => .cons e (Paired.takeP r n)
theorem Bch.keep {C : Addr} {H H' : Hp} {b S P : Addr} {ow : List Addr} {gs : List G} {past : List (List G)} (h : Bch C H b S P ow gs past) (k : ∀ a u, (a = b ∨ a ∈ ow ∨ ∃ xs, u = .tup xs) → H a = some u → H' a = some u) : Bch C H' b S P ow gs past := by
 have kt : ∀ a xs, H a = some (.tup xs) → H' a = some (.tup xs) := fun a xs e => k a _ (.inr (.inr ⟨xs, rfl⟩)) e
 obtain ⟨dx, e⟩ := h.at_
 obtain ⟨ps, e2, pr, hm⟩ := h.pa
 exact ⟨⟨dx, k _ _ (.inl rfl) e⟩, h.st.keep (fun u e => k _ u (.inr (.inl h.so)) e) kt, ⟨ps, k _ _ (.inr (.inl h.po)) e2, Paired.keepM pr fun x y hx q => q.keep (fun u e => k _ u (.inr (.inl (hm x hx).1)) e) kt, hm⟩, h.sp, h.so, h.po, h.std, h.stds, h.len, fun a ha => (h.lv a ha).imp fun xs e => k a _ (.inr (.inl ha)) e⟩
theorem Bch.same {C : Addr} {H H' : Hp} {b S P : Addr} {ow : List Addr} {gs : List G} {past : List (List G)} (h : Bch C H b S P ow gs past) (s : AI H H') : Bch C H' b S P ow gs past := h.keep fun a u _ e => s a u e
noncomputable def Ef (gs : List G) (p : Int) (o : List G) : List G := (gs.filter fun g => decide (g.p < p)) ++ (o ++ (gs.filter fun g => decide (p < g.p)))
theorem N7 {gs : List G} {p : Int} {o : List G} (h : Asc gs) (ho : Asc o) (hp : ∀ g ∈ o, g.p = p) : Asc (Ef gs p o) := by
 unfold Ef Asc at *
 refine List.pairwise_append.mpr ⟨h.filter _, List.pairwise_append.mpr ⟨ho, h.filter _, fun a ha b hb => ?_⟩, fun a ha b hb => ?_⟩
 ·have := z4 (zp.mp hb).2
  rw [hp a ha]; exact this
 ·have h1 := z4 (zp.mp ha).2
  rcases zg.mp hb with z | z
  ·rw [hp b z]; exact h1
  ·have := z4 (zp.mp z).2
   lia
theorem K1 {gs : List G} {p : Int} {o : List G} {g : G} : g ∈ Ef gs p o ↔ (g ∈ gs ∧ g.p ≠ p) ∨ g ∈ o := by
 unfold Ef
 simp only [zg, zp, decide_eq_true_eq]
 constructor
 ·rintro (⟨h, q⟩ | h | ⟨h, q⟩)
  ·exact .inl ⟨h, by lia⟩
  ·exact .inr h
  ·exact .inl ⟨h, by lia⟩
 ·rintro (⟨h, q⟩ | h)
  ·rcases Int.lt_or_gt_of_ne q with z | z
   ·exact .inl ⟨h, z⟩
   ·exact .inr (.inr ⟨h, z⟩)
  ·exact .inr (.inl h)
theorem JY {gs : List G} {p : Int} {o : List G} : (Ef gs p o).Perm ((gs.filter fun g => !decide (g.p = p)) ++ o) := by
 unfold Ef
 have h : ((gs.filter fun g => decide (g.p < p)) ++ (gs.filter fun g => decide (p < g.p))).Perm (gs.filter fun g => !decide (g.p = p)) := by
  induction gs with
  | nil => exact List.Perm.refl _
  | cons a gs ih =>
   simp only [qA]
   rcases Int.lt_trichotomy a.p p with z | z | z
   ·simp only [z5 z, show decide (p < a.p) = false from zV (by lia), show decide (a.p = p) = false from zV (by lia), if_true, Bool.not_false, zk, if_false, List.cons_append]
    exact ih.cons _
   ·simp only [show decide (a.p < p) = false from zV (by lia), show decide (p < a.p) = false from zV (by lia), z5 z, Bool.not_true, zk, if_false]
    exact ih
   ·simp only [show decide (a.p < p) = false from zV (by lia), z5 z, show decide (a.p = p) = false from zV (by lia), if_true, Bool.not_false, zk, if_false]
    exact List.perm_middle.trans (ih.cons _)
 exact (List.perm_append_comm_assoc _ _ _).trans ((h.append_left o).trans List.perm_append_comm)
theorem IE {gs : List G} {p : Int} {o : List G} : (Ef gs p o).length = (gs.filter fun g => !decide (g.p = p)).length + o.length := by
 rw [JY.length_eq, zW]
noncomputable abbrev Ab (gs : List G) : List Int := gs.map G.p
noncomputable def Bg (gs : List G) (p : Int) : Option G := gs.find? fun g => decide (g.p = p)
theorem B1 {gs : List G} {p : Int} {g : G} (h : Bg gs p = some g) : g ∈ gs ∧ g.p = p := by
 have h1 := List.mem_of_find?_eq_some h
 have h2 := List.find?_some h
 exact ⟨h1, z4 h2⟩
theorem GE {gs : List G} {p : Int} : Bg gs p = none ↔ p ∉ Ab gs := by
 unfold Bg Ab
 rw [List.find?_eq_none]
 constructor
 ·intro h z
  obtain ⟨g, hg, e⟩ := zX.mp z
  exact h g hg (z5 e)
 ·intro h g hg z
  exact h (zX.mpr ⟨g, hg, z4 z⟩)
theorem P3 {gs : List G} (ha : Asc gs) {g : G} (hg : g ∈ gs) : Bg gs g.p = some g := by
 cases h : Bg gs g.p with
 | none => exact absurd (zX.mpr ⟨g, hg, rfl⟩) (GE.mp h)
 | some x =>
  obtain ⟨h1, h2⟩ := B1 h
  rw [Kj ha h1 hg h2]
noncomputable abbrev InB (x : Int) : Prop := -1000 ≤ x ∧ x ≤ 1000
noncomputable def DI (p f h : Int) : Option Err := if h < f then some .upside else if InB p ∧ InB f ∧ InB h then none else some .bounds
theorem CL {p f h : Int} : DI p f h = none ↔ OkG ⟨p, f, h⟩ := by
 unfold DI
 constructor
 ·intro z
  split at z
  ·cases z
  ·split at z
   ·rename_i h1 h2
    obtain ⟨⟨a, b⟩, ⟨c, d⟩, e, f1⟩ := h2
    exact ⟨a, b, c, by show f ≤ h; lia, f1⟩
   ·cases z
 ·rintro ⟨a, b, c, d, e⟩
  rw [if_neg (by simp only at *; lia), if_pos (by simp only at *; unfold InB; lia)]
noncomputable def En (gs : List G) (past : List (List G)) (p f h : Int) : Option Err :=
 if p ∈ Ab gs then some .taken else (DI p f h).or (if 40 ≤ gs.length then some .full else if 300 ≤ past.length then some .deeds else none)
noncomputable def GQ (past : List (List G)) : Option Err := if 300 ≤ past.length then some .deeds else none
noncomputable def GM (gs : List G) (past : List (List G)) (p : Int) : Option Err := if p ∈ Ab gs then GQ past else some .nogate
noncomputable def B8 (gs : List G) (past : List (List G)) (p x y : Int) : Option Err := match Bg gs p with
 | none => some .nogate
 | some g => (DI p (g.f + x) (g.h + y)).or (GQ past)
noncomputable def OE (past : List (List G)) (n : Int) : Option Err := if n < 1 then some .bounds else if past.length < n then some .nothing else none
theorem Std.put {gs : List G} {p f h : Int} (s : Std gs) (ok : OkG ⟨p, f, h⟩) (hl : (gs.filter fun g => !decide (g.p = p)).length < 40) : Std (Ef gs p [⟨p, f, h⟩]) where
 asc := N7 s.asc (List.pairwise_singleton ..) fun g hg => by rw [zD.mp hg]
 ok := fun g hg => by
  rcases K1.mp hg with z | z
  ·exact s.ok g z.1
  ·rw [zD.mp z]; exact ok
 len := by rw [IE]; simp only [List.length_singleton]; lia
theorem Std.take {gs : List G} {p : Int} (s : Std gs) : Std (Ef gs p []) where
 asc := N7 s.asc List.Pairwise.nil fun g hg => absurd hg (by simp)
 ok := fun g hg => by
  rcases K1.mp hg with z | z
  ·exact s.ok g z.1
  ·exact absurd z (by simp)
 len := by
  rw [IE]
  have := List.length_filter_le (fun g : G => !decide (g.p = p)) gs
  have := s.len
  simp only [List.length_nil]; lia
theorem UV {gs : List G} {g : G} (hg : g ∈ gs) : (gs.filter fun x => !decide (x.p = g.p)).length < gs.length :=
 List.length_filter_lt_length_iff_exists.mpr ⟨g, hg, by simp⟩
theorem RK {gs : List G} {p : Int} (hp : p ∉ Ab gs) : (gs.filter fun x => !decide (x.p = p)) = gs :=
 List.filter_eq_self.mpr fun g hg => by
  rw [zV (fun z => hp (zX.mpr ⟨g, hg, z⟩))]; rfl
theorem Bch.off {C : Addr} {H : Hp} {b S P : Addr} {ow : List Addr} {gs : List G} {past : List (List G)} (h : Bch C H b S P ow gs past) {a : Addr} (n : H a = none) : a ∉ ow := fun z => by
 obtain ⟨_, e⟩ := h.lv a z
 rw [n] at e; cases e
theorem Bch.nep {C : Addr} {H : Hp} {b S P : Addr} {ow : List Addr} {gs : List G} {past : List (List G)} (h : Bch C H b S P ow gs past) {a : Addr} {u : HO} (e : H a = some u) (hu : ∀ xs, u ≠ .lst xs) : a ≠ P := fun z => by
 obtain ⟨_, e', _⟩ := h.pa
 rw [z, e'] at e; exact hu _ (zI e).symm
theorem Bch.neb {C : Addr} {H : Hp} {b S P : Addr} {ow : List Addr} {gs : List G} {past : List (List G)} (h : Bch C H b S P ow gs past) {a : Addr} {u : HO} (e : H a = some u) (hu : ∀ C dx fs, u ≠ .ins C dx fs) : a ≠ b := fun z => by
 obtain ⟨_, e'⟩ := h.at_
 rw [z, e'] at e; exact hu _ _ _ (zI e).symm
theorem Bch.tup {C : Addr} {H H' : Hp} {b S P : Addr} {ow : List Addr} {gs : List G} {past : List (List G)} (h : Bch C H b S P ow gs past) (k : Kp b P H H') {a : Addr} {xs : List V} (e : H a = some (.tup xs)) : H' a = some (.tup xs) :=
 k a _ (h.neb e fun _ _ _ z => by cases z) (h.nep e fun _ z => by cases z) e
theorem Pd {p : Int} : ∀ l : List Int, inV (.int p) (l.map V.int) = decide (p ∈ l)
 | [] => rfl
 | a :: l => by
  show (eqV (.int a) (.int p) || inV (.int p) (l.map V.int)) = _
  rw [Pd l]
  have e : eqV (.int a) (.int p) = decide (p = a) := by
   show decide (a = p) = decide (p = a)
   exact decide_eq_decide.mpr eq_comm
  rw [e, ← Bool.decide_or]
  exact decide_eq_decide.mpr zH.symm
theorem Qi (l : List Int) : (l.map V.int).all IY = true := by
 rw [zv]
 intro x hx
 obtain ⟨i, _, rfl⟩ := zX.mp hx
 rfl
theorem Rl {gs : List G} : (gs.filter fun _ => true) = gs := List.filter_eq_self.mpr fun _ _ => rfl
end TG
namespace L2
open PySem PySem.Spec PyProof.Rows
section
variable {prog : Program} {w : World} {A : Around} {E : Value → Shared → Prop} {s : Shared}
end
section
variable {X : Cx} {pos : Pos}
noncomputable def NF (K : W.Frag) (n : Nat) (t : TGs) : TG := fun v σ H Q => ∃ a xs, v = .ref a ∧ SqL K H a xs ∧ xs.length = n ∧ t xs σ H Q
noncomputable def El : List V → Hp → VK → Prop := fun vs H Q => ∃ b more, vs = [.ref b] ∧ H b = some (.dK more) ∧ ∀ p H', H p = none → AI H H' → H' p = some (.dK more) → Q (.ref p) H'
end
theorem UU {X : Cx} : Cp (CXE X.prog X.w) X E0 := fun _ _ _ _ _ _ _ ⟨_, _, _, _, _, _, _, _, _, h⟩ => h.elim
structure Tp (K : W.Frag) (x qual : Str) (st : Stmt) (f : Addr) (fd : FuncData) : Prop where
 ex : ∃ (dV oc : Value) (od : Option Addr) (kV doc pm : Value) (an : Option Addr) (cdv ct : Value) (osl : Array (Option Value)),
  fd = W.fnOf x qual (Ba st) (BD st) (AF st) dV kV doc pm an cdv ct ∧ K.lookup f = some ⟨oc, od, .func fd, osl⟩ ∧ W.codeIn K cdv qual = true
 kp : W.keepIn K (.ref f) = true
theorem Tp.okX {P : Program} {w : World} {K : W.Frag} {mg : Str → Option Value} {base : Heap} {x qual : Str} {st : Stmt} {f : Addr} {fd : FuncData} {N ps : List Str} {k : Nat} {sp : Sp} (F : Tp K x qual st f fd) (S : AL N ps (AF st)) (len : ∀ vs H Q E, sp vs H Q E → vs.length = ps.length)
  (hbody : ∀ (cdv : Value) (A : Around) (outer : List Env) (s : Shared) (H : Hp) (vs : List V) (Q : VK) (E : XK), BY k (A.deeper (envOfC qual (AF st) s.heap.objs.size f cdv)) → sp vs H Q E →
   ∃ t, PSs (A9 (CXE P w) P w K mg base N qual (AF st) f cdv A outer s H E) (BD st) t ∧ t { nx := fun _ H' => Q .non H', rt := Q } (start N vs) H) : Aj P w K mg base (CXE P w) (k + 1) f fd ps sp := by
 obtain ⟨dV, oc, od, kV, doc, pm, an, cdv, ct, osl, rfl, lk, hcd⟩ := F.ex
 exact PK lk hcd S len fun A outer s H vs Q E hr hsp => hbody cdv A outer s H vs Q E hr hsp
structure DMD (K : W.Frag) (C : Addr) (x qual : Str) (st : Stmt) (ps : List Str) (f : Addr) (fd : FuncData) (dvs : List V) : Prop where
 F : Tp K x qual st f fd
 mt : Pn K C x f
 b : Binds K fd ps []
 bd : ∃ ds, Ae dvs ds ∧ Binds K fd ps ds
end L2
namespace TG
open PySem L2
end TG
namespace L2
open PySem PySem.Spec PyProof.Rows
section
variable {X : Cx}
noncomputable def Iw : List V → Hp → VK → Prop := fun xs H Q => ∃ i j k, xs = [.int i, .int j, .int k] ∧ ∀ m, (∀ b, m ≤ b ↔ i ≤ b ∧ j ≤ b ∧ k ≤ b) → Q (.int m) H
end
end L2
namespace TG
open PySem L2
open PySem.W PySem.Calls
noncomputable def IW (tb : String → Option Builtin) (p : Program) (w : World) (n₀ : Nat) (ann : Option Value) : Nat → SharedT → Thread → Option SharedT
 | 0, _, _ => none
 | n + 1, s, t => match through t with
  | true => some s
  | false => match stepOk n₀ ann t with
   | false => none
   | true => match stepT (denote tb) p w s t with
    | some (s', t') => IW tb p w n₀ ann n s' t'
    | none => none
theorem K6 {tb : String → Option Builtin} {p : Program} {w : World} {n₀ : Nat} {ann : Option Value} : ∀ {n : Nat} {s s' : SharedT} {t : Thread}, IW tb p w n₀ ann n s t = some s' → topRun tb p w n₀ ann n s.abs t = some s'.abs
 | 0, _, _, _, h => by cases h
 | n + 1, s, s', t, h => by
  unfold IW at h
  unfold topRun
  cases he : through t with
  | true => rw [he] at h; cases h; rfl
  | false =>
   rw [he] at h
   cases hk : stepOk n₀ ann t with
   | false => rw [hk] at h; cases h
   | true =>
    rw [hk] at h
    cases hs : stepT (denote tb) p w s t with
    | none => rw [hs] at h; cases h
    | some r => obtain ⟨s₂, t₂⟩ := r; rw [hs] at h; rw [stepT_spec hs]; exact K6 h
noncomputable def Kof (as : List Addr) (h : Heap) : Frag := as.filterMap fun a => (h.get? a).map fun o => (a, o)
theorem VL (as : List Addr) (h : Heap) : (Kof as h).In h := by
 intro a o e
 induction as with
 | nil => cases e
 | cons b r ih =>
  simp only [Kof, zo] at e
  cases hb : h.get? b with
  | none => rw [hb] at e; exact ih e
  | some ob =>
   rw [hb] at e
   simp only [Option.map_some, List.lookup] at e
   split at e
   ·rename_i q; cases e; rw [beq_iff_eq.mp q]; exact hb
   ·exact ih e
noncomputable def OV (t : BT) (n a : Nat) : Option Obj := match Nat.blt a n with
 | true => alive ((t.get a).getD default)
 | false => none
noncomputable def Pj (as : List Addr) (s : SharedT) : Frag := as.filterMap fun a => (OV s.tree s.n a).map fun o => (a, o)
theorem PV (t : BT) (n : Nat) (life : Life) (a : Nat) : (absHeap t n life).get? a = OV t n a := by
 unfold OV
 cases h : Nat.blt a n with
 | true =>
  have h' : a < n := by simpa [Nat.blt_eq] using h
  show _ = alive ((t.get a).getD default)
  unfold Heap.get?
  rw [absHeap_at, if_pos h']
  generalize (t.get a).getD default = o
  obtain ⟨c, d, dt, sl⟩ := o
  cases dt <;> rfl
 | false =>
  have h' : ¬ a < n := by intro q; rw [Nat.blt_eq.mpr q] at h; cases h
  exact abs_get_none h'
theorem Sg (as : List Addr) (s : SharedT) : Kof as s.abs.heap = Pj as s := by
 unfold Kof Pj
 congr 1
 funext a
 show ((absHeap s.tree s.n s.life).get? a).map _ = _
 rw [PV]
noncomputable def Q1 : Nat → BT → List Obj → BT
 | _, t, [] => t
 | i, t, o :: r => Q1 (i + 1) (t.ins i o) r
noncomputable def Rb (P : Params) (os : OsState) : SharedT := ⟨Q1 0 .nil (boot_heap P).objs.toList, 11, {}, #[], boot_drawn, boot_toks, os⟩
theorem Pw (P : Params) (os : OsState) : (Rb P os).abs = ⟨boot_heap P, #[], boot_drawn, boot_toks, os⟩ := by kernel_rfl
theorem Px (P : Params) : ((boot_heap P).isNs mainGlobals && (#[] : Array GenState).size == 0, (boot_heap P).objs.size, (boot_heap P).nsMap mainGlobals "__annotations__") = (true, 11, some (.ref 6)) := by kernel_rfl
noncomputable def Rp {β : Type} (p q : Program) (loose : List Str) (obs : SharedT → β) (P : Params) (s : SharedT) :=
 ((staticsOk (importedModules p.main.body) (boot_heap P) s.abs.heap && namesBound p s.abs.heap && gensDone s.abs && laidKept (boot_heap P) s.abs.heap), openSeen q loose (importedModules p.main.body) (fun _ => true) true s.abs, obs s)
noncomputable def Jt {β : Type} (p q : Program) (loose : List Str) (obs : SharedT → β) (M : Nat) (w : World) (os : OsState) :=
 (IW treeTable p w 11 (some (.ref 6)) M (Rb w.params os) (topStub p)).map (Rp p q loose obs w.params)
noncomputable def Rt {β : Type} (p : Program) (obs : SharedT → β) (M : Nat) (w : World) (os : OsState) :=
 (IW treeTable p w 11 (some (.ref 6)) M (Rb w.params os) (topStub p)).map obs
theorem Ox {β : Type} {p q : Program} {loose : List Str} {B : SharedT → β} {M : Nat} {w : World} {os : OsState} {v : β} (e1 : Jt p q loose (fun _ => ()) M w os = some (true, openGood q loose, ())) (e2 : Rt p B M w os = some v) : Jt p q loose B M w os = some (true, openGood q loose, v) := by
 obtain ⟨s, r, l⟩ := za.mp e1
 obtain ⟨s', r', l'⟩ := za.mp e2
 obtain rfl : s = s' := zI (r.symm.trans r')
 obtain ⟨l1, l2, -⟩ : _ ∧ _ ∧ _ := by simpa only [Rp, Prod.mk.injEq] using l
 unfold Jt
 rw [r]
 exact congrArg some (Prod.ext l1 (Prod.ext l2 l'))
theorem Sc {p q : Program} {loose : List Str} {β : Type} {Yf : Shared → β} {obs : SharedT → β} {v : β} {N M : Nat}
  (e : opening p = plainProg p.main.scope.names) (hN : Nat.ble 600 N = true) (f : ∀ s, fenceModules? p s = some s) (le : Nat.ble M N = true) (hY : ∀ s : SharedT, Yf s.abs = obs s)
  (run : ∀ (w : World) (os : OsState), Jt p q loose obs M w os = some (true, openGood q loose, v)) : LeftO p q loose (fun _ => true) Yf (fun _ => v) N := fun w => by
 have open_ := boot_open e hN f w
 obtain ⟨⟨h, gs, d, k, os⟩, e1, e2⟩ := za.mp open_
 obtain ⟨rfl, rfl, rfl, rfl⟩ : h = boot_heap w.params ∧ gs = #[] ∧ d = boot_drawn ∧ k = boot_toks := by simpa using e2
 obtain ⟨z1, z2, z3⟩ : _ ∧ _ ∧ _ := by simpa only [Prod.mk.injEq] using Px w.params
 obtain ⟨sT, r0, l0⟩ := za.mp (run w os)
 obtain ⟨l1, l2, l3⟩ : _ ∧ _ ∧ _ := by simpa only [Rp, Prod.mk.injEq] using l0
 have r1 := K6 r0
 rw [Pw] at r1
 have r := topRun_mono (N - M) _ _ _ _ r1
 rw [show M + (N - M) = N by have := Nat.le_of_ble_eq_true le; lia] at r
 have t : topFrom treeTable p w N ⟨boot_heap w.params, #[], boot_drawn, boot_toks, os⟩ = some sT.abs := by
  unfold topFrom
  dsimp only
  rw [z1, z2, z3, r]
  show (match staticsOk (importedModules p.main.body) (boot_heap w.params) sT.abs.heap && namesBound p sT.abs.heap && gensDone sT.abs && laidKept (boot_heap w.params) sT.abs.heap with | true => _ | false => _) = _
  rw [l1]
 unfold openEnds
 rw [e1]
 show (topFrom treeTable p w N _).map _ = _
 rw [t]
 exact congrArg some (Prod.ext l2 ((hY sT).trans l3))
noncomputable abbrev Seen := Option (Str × Str × Arguments × List Stmt × Scope × Addr × List (Str × Addr) × Addr × Bool × List Int)
noncomputable def N5 : List Value → Option (List Int)
 | [] => some []
 | .int i _ :: r => (N5 r).map (i :: ·)
 | _ => none
noncomputable def dfl (K : Frag) : Value → Option (List Int)
 | .none => some []
 | .ref d => match K.lookup d with
  | some ⟨_, _, .seq vs _, _⟩ => match N5 vs.toList with
   | some (i :: r) => some (i :: r)
   | _ => none
  | _ => none
 | _ => none
noncomputable def Qm (K : Frag) (f : Addr) (qual : Str) : Seen := match K.lookup f with
 | some ⟨_, _, .func ⟨nm, q, ps, .stmts b, sc, g, cl, dV, _, _, _, _, cd, _, bi⟩, _⟩ => match dfl K dV with
  | some ds => some (nm, q, ps, b, sc, g, cl, bi, codeIn K cd qual && keepIn K (.ref f), ds)
  | none => none
 | _ => none
noncomputable def BS (K : Frag) (x : Str) : Seen := match nsIn K mainGlobals x with
 | some (some (.ref f)) => Qm K f x
 | _ => none
noncomputable def C1 (K : Frag) (c x qual : Str) : Seen := match nsIn K mainGlobals c with
 | some (some (.ref C)) => match findIn K (.ref C) x with
  | some (some (.ref f)) => match isFn K (.ref f) with
   | true => Qm K f qual
   | false => none
  | _ => none
 | _ => none
noncomputable def Ao (x qual : Str) (st : Stmt) (ds : List Int) : Seen := some (x, qual, Ba st, BD st, AF st, mainGlobals, [], builtinsNs, true, ds)
noncomputable def TU (K : Frag) (c : Str) (fs : List Str) : Bool := match nsIn K mainGlobals c with
 | some (some (.ref C)) => plainGet K C Str.empty && hasDictIn K C && plainOver K C && findIn K (.ref C) "__setattr__" == some (some (.builtin "object.__setattr__")) && makesIn K C && keepIn K (.ref C) && fs.all fun f => findIn K (.ref C) f == some none
 | _ => false
noncomputable def Hn (K : Frag) (c : Str) : Bool := match nsIn K mainGlobals c with
 | some (some (.ref C)) => excIn K C bmV "ValueError.__new__"
 | _ => false
noncomputable def HX (K : Frag) (a b : Str) : Option Bool := match nsIn K mainGlobals a, nsIn K mainGlobals b with
 | some (some (.ref A)), some (some (.ref B)) => exmOne K (.ref A) (.ref B)
 | _, _ => none
noncomputable def M9 (K : Frag) (x : Str) : Option Int := match nsIn K mainGlobals x with
 | some (some (.int i _)) => some i
 | _ => none
noncomputable def VT (K : Frag) (x : Str) : Option Str := match nsIn K mainGlobals x with
 | some (some (.str i _)) => some i
 | _ => none
noncomputable def IN (K : Frag) (x : Str) : Bool := match nsIn K mainGlobals x with
 | some none => true
 | _ => false
section
variable {K : Frag}
theorem OA {v : Value} (e : dfl K v = some []) : v = .none := by
 unfold dfl at e
 split at e
 ·rfl
 ·repeat' split at e
  all_goals cases e
 ·cases e
theorem MQ : ∀ {vs : List Value} {is : List Int}, N5 vs = some is → ∃ ts : List Tok, ts.length = is.length ∧ vs = is.zipWith Value.int ts
 | [], is, e => by cases e; exact ⟨[], rfl, rfl⟩
 | v :: r, is, e => by
  unfold N5 at e
  split at e
  ·cases e; rename_i h; cases h
  ·rename_i i t r' h
   cases h
   cases h2 : N5 r with
   | none => rw [h2] at e; cases e
   | some js =>
    rw [h2] at e
    cases e
    obtain ⟨ts, hl, rfl⟩ := MQ h2
    exact ⟨t :: ts, by simp [hl], rfl⟩
  ·cases e
theorem Q6 {v : Value} {i : Int} {r : List Int} (e : dfl K v = some (i :: r)) : ∃ d cl di n sl ts, v = .ref d ∧ ts.length = (i :: r).length ∧ K.lookup d = some ⟨cl, di, .seq ((i :: r).zipWith Value.int ts).toArray n, sl⟩ := by
 unfold dfl at e
 split at e
 ·cases e
 ·rename_i d
  split at e
  ·rename_i cl di vs n sl hl
   split at e
   ·rename_i j r' h
    cases e
    obtain ⟨ts, h1, h2⟩ := MQ h
    refine ⟨d, cl, di, n, sl, ts, rfl, h1, ?_⟩
    rw [hl, ← h2]
   ·cases e
  ·cases e
 ·cases e
theorem NC {f : Addr} {x qual : Str} {st : Stmt} {ds : List Int} (e : Qm K f qual = Ao x qual st ds) : ∃ (oc : Value) (od : Option Addr) (sl : Array (Option Value)) (dV kV dc pm : Value) (an : Option Addr) (cd ct : Value),
  K.lookup f = some ⟨oc, od, .func (fnOf x qual (Ba st) (BD st) (AF st) dV kV dc pm an cd ct), sl⟩ ∧ codeIn K cd qual = true ∧ keepIn K (.ref f) = true ∧ dfl K dV = some ds := by
 unfold Qm Ao at e
 split at e
 ·rename_i oc od nm q ps b sc g cl dV kV dc pm an cd ct bi sl hl
  split at e
  ·rename_i ds' hd
   simp only [Option.some.injEq, Prod.mk.injEq, q9] at e
   obtain ⟨rfl, rfl, rfl, rfl, rfl, rfl, rfl, rfl, ⟨h1, h2⟩, rfl⟩ := e
   exact ⟨oc, od, sl, dV, kV, dc, pm, an, cd, ct, hl, h1, h2, hd⟩
  ·cases e
 ·cases e
theorem PU {x : Str} {st : Stmt} (e : BS K x = Ao x x st []) : ∃ (f : Addr) (oc : Value) (od : Option Addr) (sl : Array (Option Value)) (kV dc pm : Value) (an : Option Addr) (cd ct : Value),
  nsIn K mainGlobals x = some (some (.ref f)) ∧ K.lookup f = some ⟨oc, od, .func (fnOf x x (Ba st) (BD st) (AF st) .none kV dc pm an cd ct), sl⟩ ∧ codeIn K cd x = true ∧ keepIn K (.ref f) = true := by
 unfold BS at e
 split at e
 ·rename_i f hf
  obtain ⟨oc, od, sl, dV, kV, dc, pm, an, cd, ct, h1, h2, h3, h4⟩ := NC e
  cases OA h4
  exact ⟨f, oc, od, sl, kV, dc, pm, an, cd, ct, hf, h1, h2, h3⟩
 ·cases e
theorem Sz {C : Addr} {c x qual : Str} {st : Stmt} {ds : List Int} (hc : nsIn K mainGlobals c = some (some (.ref C))) (e : C1 K c x qual = Ao x qual st ds) : ∃ f : Addr, findIn K (.ref C) x = some (some (.ref f)) ∧ isFn K (.ref f) = true ∧ Qm K f qual = Ao x qual st ds := by
 unfold C1 at e
 rw [hc] at e
 dsimp only at e
 split at e
 ·rename_i f hf
  split at e
  ·rename_i h
   exact ⟨f, hf, h, e⟩
  ·cases e
 ·cases e
theorem SS {C : Addr} {c x qual : Str} {st : Stmt} (hc : nsIn K mainGlobals c = some (some (.ref C))) (e : C1 K c x qual = Ao x qual st []) : ∃ (f : Addr) (oc : Value) (od : Option Addr) (sl : Array (Option Value)) (kV dc pm : Value) (an : Option Addr) (cd ct : Value),
  findIn K (.ref C) x = some (some (.ref f)) ∧ isFn K (.ref f) = true ∧ K.lookup f = some ⟨oc, od, .func (fnOf x qual (Ba st) (BD st) (AF st) .none kV dc pm an cd ct), sl⟩ ∧ codeIn K cd qual = true ∧ keepIn K (.ref f) = true := by
 obtain ⟨f, hf, hi, e⟩ := Sz hc e
 obtain ⟨oc, od, sl, dV, kV, dc, pm, an, cd, ct, h1, h2, h3, h4⟩ := NC e
 cases OA h4
 exact ⟨f, oc, od, sl, kV, dc, pm, an, cd, ct, hf, hi, h1, h2, h3⟩
theorem Qw {C : Addr} {c x qual : Str} {st : Stmt} {i : Int} (hc : nsIn K mainGlobals c = some (some (.ref C))) (e : C1 K c x qual = Ao x qual st [i]) : ∃ (f : Addr) (oc : Value) (od : Option Addr) (sl : Array (Option Value)) (d : Addr) (kV dc pm : Value) (an : Option Addr) (cd ct : Value) (dcl : Value) (ddi : Option Addr) (dn : Nat) (dsl : Array (Option Value)) (tk : Tok),
  findIn K (.ref C) x = some (some (.ref f)) ∧ isFn K (.ref f) = true ∧ K.lookup f = some ⟨oc, od, .func (fnOf x qual (Ba st) (BD st) (AF st) (.ref d) kV dc pm an cd ct), sl⟩ ∧ codeIn K cd qual = true ∧ keepIn K (.ref f) = true ∧ K.lookup d = some ⟨dcl, ddi, .seq #[.int i tk] dn, dsl⟩ := by
 obtain ⟨f, hf, hi, e⟩ := Sz hc e
 obtain ⟨oc, od, sl, dV, kV, dc, pm, an, cd, ct, h1, h2, h3, h4⟩ := NC e
 obtain ⟨d, cl, di, n, sl', ts, rfl, hl, h5⟩ := Q6 h4
 match ts, hl with
 | [t], _ => exact ⟨f, oc, od, sl, d, kV, dc, pm, an, cd, ct, cl, di, n, sl', t, hf, hi, h1, h2, h3, h5⟩
theorem Ru {c : Str} {fs : List Str} (e : TU K c fs = true) : ∃ C : Addr, nsIn K mainGlobals c = some (some (.ref C)) ∧ plainGet K C Str.empty = true ∧ hasDictIn K C = true ∧ plainOver K C = true ∧
  findIn K (.ref C) "__setattr__" = some (some (.builtin "object.__setattr__")) ∧ makesIn K C = true ∧ keepIn K (.ref C) = true ∧ ∀ f ∈ fs, findIn K (.ref C) f = some none := by
 unfold TU at e
 split at e
 ·rename_i C hC
  simp only [q9, beq_iff_eq, zv] at e
  obtain ⟨⟨⟨⟨⟨⟨h1, h2⟩, h3⟩, h4⟩, h5⟩, h6⟩, h7⟩ := e
  exact ⟨C, hC, h1, h2, h3, h4, h5, h6, h7⟩
 ·cases e
theorem Bk {c : Str} (e : Hn K c = true) : ∃ C : Addr, nsIn K mainGlobals c = some (some (.ref C)) ∧ excIn K C [.type "ValueError", .type "Exception", .type "BaseException", .type "object"] "ValueError.__new__" = true := by
 unfold Hn at e
 split at e
 ·rename_i C hC
  exact ⟨C, hC, e⟩
 ·cases e
theorem Bm {a b : Str} {A B : Addr} {r : Bool} (ha : nsIn K mainGlobals a = some (some (.ref A))) (hb : nsIn K mainGlobals b = some (some (.ref B))) (e : HX K a b = some r) : exmOne K (.ref A) (.ref B) = some r := by
 unfold HX at e
 rw [ha, hb] at e
 exact e
theorem Ew {x : Str} {i : Int} (e : M9 K x = some i) : ∃ t : Tok, nsIn K mainGlobals x = some (some (.int i t)) := by
 unfold M9 at e
 split at e
 ·rename_i j t h
  cases e
  exact ⟨t, h⟩
 ·cases e
theorem SD {x y : Str} (e : VT K x = some y) : ∃ t : Tok, nsIn K mainGlobals x = some (some (.str y t)) := by
 unfold VT at e
 split at e
 ·rename_i j t h
  cases e
  exact ⟨t, h⟩
 ·cases e
theorem By {x : Str} (e : IN K x = true) : nsIn K mainGlobals x = some none := by
 unfold IN at e
 split at e
 ·assumption
 ·cases e
end
theorem VA {R : WRecords} {h : Heap} (e : R = []) : RecFacts R h := by
 subst e
 exact ⟨fun x hx => (nomatch hx), fun x hx => (nomatch hx), fun c c' a (hc : false = true) => (nomatch hc), fun c fs (hf : none = some fs) => (nomatch hf)⟩
end TG
namespace L2
open PySem
end L2
namespace TG
open PySem L2
section
variable {C D L b S P : Addr} {ow : List Addr} {gs : List G} {past : List (List G)} {H H' : Hp} {kvs : List (Key × V)} {xs : List V}
end
end TG
namespace L2
end L2
namespace TG
open PySem L2
end TG
namespace L2
open PySem
end L2
namespace TG
open PySem L2
end TG
namespace L2
open PySem PySem.Spec PyProof.Rows
theorem LC (ns : List Int) : ∀ i, i ≤ ns.length → (List.range i).map (fun i => ns.getD i 0) = ns.take i
 | 0, _ => rfl
 | i + 1, h => by
  rw [List.range_succ, zj, LC ns i (by lia), zK (show i < ns.length by lia)]
  congr 1
  show [ns.getD i 0] = _
  rw [zE, z0 (show i < ns.length by lia)]
  rfl
theorem MU (ns : List Int) : ∀ i, i ≤ ns.length → ((firstMet (fun i => ns.getD i 0) i).length = i ↔ (ns.take i).Nodup)
 | 0, _ => ⟨fun _ => List.nodup_nil, fun _ => rfl⟩
 | i + 1, h => by
  have hi : i < ns.length := by lia
  have ih := MU ns i (by lia)
  have le := firstMet_length_le (fun i => ns.getD i 0) i
  have hv : ns.getD i 0 = ns[i] := by
   rw [zE, z0 hi]
   rfl
  have ha : (firstMet (fun i => ns.getD i 0) i).any (· == ns.getD i 0) = true ↔ ns[i] ∈ ns.take i := by
   rw [firstMet_any, LC ns i (by lia), hv, List.any_eq_true]
   constructor
   ·rintro ⟨x, hx, e⟩
    rw [← (beq_iff_eq.mp e)]; exact hx
   ·intro hx
    exact ⟨_, hx, beq_iff_eq.mpr rfl⟩
  rw [firstMet_succ, step_length, zK hi, List.nodup_append]
  by_cases hc : ns[i] ∈ ns.take i
  ·rw [if_pos (ha.mpr hc)]
   constructor
   ·intro z; lia
   ·rintro ⟨_, _, z⟩
    exact absurd rfl (z _ hc _ (zD.mpr rfl))
  ·rw [if_neg (fun z => hc (ha.mp z))]
   constructor
   ·intro z
    refine ⟨ih.mp (by lia), (by simp), fun a ha' b hb e => ?_⟩
    rw [zD.mp hb] at e
    exact hc (e ▸ ha')
   ·rintro ⟨z, _⟩
    have := ih.mpr z
    lia
section
variable {X : Cx}
noncomputable def HD (K : W.Frag) : List V → Hp → VK → Prop := fun xs H Q => ∃ l, xs = [.ref l] ∧ ∃ ns : List Int, SqL K H l (ns.map V.int) ∧ ns.length < 4000 ∧
 ∀ (D : Addr) (H' : Hp) (S : Int → Bool) (n : Nat), H D = none → AI H H' → H' D = some (.set S n) → n ≤ ns.length → (n = ns.length ↔ ns.Nodup) → Q (.ref D) H'
theorem Pt (hc : X.calm = true) : B2 X (.type "set") (HD X.K) := by
 intro pins s σ H xs us Q I r h
 obtain ⟨l, rfl, ns, hl, h4, q⟩ := h
 obtain ⟨u, rfl, ru⟩ := vals1 r
 cases ru
 obtain ⟨its, rv, pl, hz⟩ := I.list hl
 have hlen := rv.length
 rw [z6] at hlen
 have hn : its.toArray.size = ns.length := by rw [zJ, ← hlen]
 refine call_set_list (I.ok.hd hc) pl.isList (intsAre_of rv) (by rw [hn]; unfold scanBound; lia) fun h' tk hS kp => ?_
 rw [hn] at hS
 have hfr : H s.heap.objs.size = none := I.hok.fresh (zB _)
 have hm := MU ns ns.length (zB _)
 rw [zm] at hm
 exact ⟨.ref s.heap.objs.size, _, I.laid (t' := tk) (fun b o e => kp b o (zA e) e) (zB _) (show B4 X.prog X.w _ h' _ (.set _ _) from hS), rfl, q _ _ _ _ hfr (A0 hfr) AQ (firstMet_length_le _ _) hm⟩
noncomputable def Gz : List V → Hp → VK → Prop := fun xs H Q => ∃ a, xs = [V.ref a] ∧ ∃ (S : Int → Bool) (n : Nat), H a = some (.set S n) ∧ Q (.int n) H
theorem Ps : B2 X (.builtin "len") Gz := by
 intro pins s σ H xs us Q I r h
 obtain ⟨a, rfl, S, n, ha, q⟩ := h
 obtain ⟨u, rfl, ru⟩ := vals1 r
 cases ru
 obtain ⟨o, es, ep, t, hg, hex, hd, _, _, hsz, hf, rfl⟩ := (show s.heap.SetOf (intKind X.prog X.w) a S n from I.hok a _ ha)
 exact call_len_set hg hex hd hf (by unfold scanBound at hsz; lia) ⟨.int es.size, H, I.tok _, ⟨_, rfl⟩, q⟩
end
end L2
namespace TG
open PySem L2
noncomputable def B6 (gs : List G) (ps : List Int) : List G := ps.filterMap (Bg gs)
theorem JS {gs : List G} {ps : List Int} {g : G} (h : g ∈ B6 gs ps) : g ∈ gs := by
 obtain ⟨p, _, e⟩ := List.mem_filterMap.mp h
 exact (B1 e).1
theorem Br {gs : List G} : ∀ {ps : List Int}, (∀ p ∈ ps, p ∈ Ab gs) → Ab (B6 gs ps) = ps
 | [], _ => rfl
 | p :: ps, h => by
  have ih := Br (gs := gs) (ps := ps) fun q hq => h q (zC _ hq)
  cases hg : Bg gs p with
  | none => exact absurd (h p zQ) (GE.mp hg)
  | some g =>
   have e : B6 gs (p :: ps) = g :: B6 gs ps := by unfold B6; rw [zo, hg]
   rw [e]
   show g.p :: Ab (B6 gs ps) = _
   rw [ih, (B1 hg).2]
theorem GY {gs : List G} {ps : List Int} (h : ∀ p ∈ ps, p ∈ Ab gs) : (B6 gs ps).length = ps.length := by
 have := congrArg List.length (Br h)
 rwa [z6] at this
noncomputable def DD (ps : List Int) : Prop := ps = [] ∨ 40 < ps.length ∨ ¬ ps.Nodup
end TG
namespace L2
open PySem
theorem TY : bootBuiltins "set" = some (.type "set") := by decide +kernel
open PySem.Spec PyProof.Rows
section
variable {X : Cx}
noncomputable def ID (K : W.Frag) : R2 := fun x y H Q => ∃ a b, x = .ref a ∧ y = .ref b ∧ ∃ ns : List Int, SqL K H a (ns.map V.int) ∧ ∃ ms : List Int, SqL K H b (ms.map V.int) ∧ Q (.bl (decide (ns = ms))) H
end
end L2
namespace TG
open PySem L2
open PySem.W
section
variable {K : Frag} {mg : Str → Option Value} {h : Heap}
theorem Ah {x : Str} {st : Stmt} {ps : List Str} (X : K.In h) (G : h.Ns mainGlobals mg) (e : BS K x = Ao x x st [])
  (b : ∀ (kV doc pm : Value) (an : Option Addr) (cdv ct : Value) (us : List Value), us.length = ps.length → bindArgs (fnOf x x (Ba st) (BD st) (AF st) .none kV doc pm an cdv ct) ⟨us, []⟩ = pure (ps.zip us)) : ∃ f fd, D K mg x st ps f fd := by
 obtain ⟨f, oc, od, sl, kV, dc, pm, an, cd, ct, a, l, c, k⟩ := PU e
 exact ⟨f, _, Jd l c k, mg_of X G a, (Jd l c k).binds b⟩
theorem Be {C : Addr} {c x qual : Str} {st : Stmt} {ps : List Str} (hc : nsIn K mainGlobals c = some (some (.ref C))) (e : C1 K c x qual = Ao x qual st [])
  (b : ∀ (kV doc pm : Value) (an : Option Addr) (cdv ct : Value) (us : List Value), us.length = ps.length → bindArgs (fnOf x qual (Ba st) (BD st) (AF st) .none kV doc pm an cdv ct) ⟨us, []⟩ = pure (ps.zip us)) : ∃ f fd, DM K C x qual st ps f fd := by
 obtain ⟨f, oc, od, sl, kV, dc, pm, an, cd, ct, a, i, l, c, k⟩ := SS hc e
 exact ⟨f, _, Jd l c k, ⟨a, i, k⟩, (Jd l c k).binds b⟩
theorem SB {C : Addr} {c x qual : Str} {st : Stmt} {ps : List Str} {j : Int} (hc : nsIn K mainGlobals c = some (some (.ref C))) (e : C1 K c x qual = Ao x qual st [j])
  (b : ∀ (s : Shared) (d : Addr) (kV doc pm : Value) (an : Option Addr) (cdv ct : Value) (cl : Value) (di : Option Addr) (n : Nat) (sl : Array (Option Value)) (tk : Tok) (us : List Value), s.heap.get? d = some ⟨cl, di, .seq #[.int j tk] n, sl⟩ → us.length = ps.length → BindsTo s (fnOf x qual (Ba st) (BD st) (AF st) (.ref d) kV doc pm an cdv ct) ⟨us, []⟩ (ps.zip us))
  (bd : ∀ (s : Shared) (d : Addr) (kV doc pm : Value) (an : Option Addr) (cdv ct : Value) (cl : Value) (di : Option Addr) (n : Nat) (sl : Array (Option Value)) (tk : Tok) (us : List Value), s.heap.get? d = some ⟨cl, di, .seq #[.int j tk] n, sl⟩ → us.length + 1 = ps.length → BindsTo s (fnOf x qual (Ba st) (BD st) (AF st) (.ref d) kV doc pm an cdv ct) ⟨us, []⟩ (ps.zip (us ++ [.int j tk]))) : ∃ f fd, DMD K C x qual st ps f fd [.int j] := by
 obtain ⟨f, oc, od, sl, d, kV, dc, pm, an, cd, ct, dcl, ddi, dn, dsl, tk, a, i, l, c, k, lt⟩ := Qw hc e
 refine ⟨f, _, ⟨⟨_, _, _, _, _, _, _, _, _, _, rfl, l, c⟩, k⟩, ⟨a, i, k⟩, fun s us hK hl => ?_, ⟨[.int j tk], .cons ⟨_, rfl⟩ .nil, fun s us hK hl => ?_⟩⟩
 ·rw [List.append_nil] at hl ⊢
  exact b s d kV dc pm an cd ct dcl ddi dn dsl tk us (hK _ _ lt) hl
 ·exact bd s d kV dc pm an cd ct dcl ddi dn dsl tk us (hK _ _ lt) (by simpa using hl)
end
noncomputable def QV (a b c d : Int) : Prop := b < 1 ∨ d < 1 ∨ ∃ x ∈ [a, b, c, d], x < -999999999 ∨ 999999999 < x
noncomputable def SF (a b c d : Int) (g : G) : Bool := decide (Pas a b c d g.p g.f g.h)
theorem NJ {K : W.Frag} {a : Addr} {as : List Addr} {gs : List G} {te : TE} {tc : TT} {caps : St} {D : Addr} {H1 : Hp} {Q : Hp → Prop} (P : G → Bool) (f : G → V) (hl : SqL K H1 a (as.map V.ref)) (ga : Aq H1 as gs) (hD : H1 D = none) (hz : gs.length ≤ 1000)
  (ht : ∀ v g H (R : Bool → Hp → Prop), g ∈ gs → AI H1 H → H v = some (.tup (G.vs g)) → (∀ H', AI H H' → R (P g) H') → tc (some (.ref v) :: caps) H R)
  (he : ∀ v g H (R : VK), g ∈ gs → AI H1 H → H v = some (.tup (G.vs g)) → R (f g) H → te (some (.ref v) :: caps) H R)
  (hd : ∀ H, AI H1 H → H D = some (.lst ((gs.filter P).map f)) → Q H) : F0 te tc caps (Itl K a) D H1 Q := by
 have la := ga.len
 refine C3 (xs := as.map V.ref) (fun i ys H => ys = ((gs.take i).filter P).map f ∧ AI H1 H ∧ H D = some (.lst ys)) ⟨rfl, A0 hD, AQ⟩ (fun _ _ H _ ⟨_, s1, _⟩ => s1.seq hl) ?_ ?_
 ·rintro i x ys H0 hx ⟨rfl, s0, e0⟩
  have hi : i < gs.length := by
   have := (z8.mp hx).1
   rw [z6] at this
   lia
  obtain ⟨v, hv, t1⟩ := ga.get (z0 hi)
  have ex : x = V.ref v := by
   rw [zG, hv] at hx
   exact (zI hx).symm
  subst ex
  have et : gs.take (i + 1) = gs.take i ++ [gs[i]] := zK hi
  have hlen : (as.map V.ref).length = gs.length := by rw [z6, la]
  have hle : (((gs.take i).filter P).map f).length ≤ i := by
   rw [z6]
   exact zL (List.length_filter_le _ _) (List.length_take_le _ _)
  refine ht v gs[i] H0 _ (zR hi) s0 (s0.get t1) fun H s => ?_
  have s1 := s0.trans s
  have e1 := s.get e0
  by_cases hp : P gs[i] = true
  ·rw [if_pos hp]
   refine he v gs[i] H _ (zR hi) s1 (s1.get t1) ?_
   refine ⟨e1, by rw [PySem.sizeLine_eq]; lia, _, by lia, rfl, by lia, ?_, s1.updFresh hD, AQ⟩
   rw [et, qC, qA, if_pos hp, List.filter_nil, zj]
   rfl
  ·rw [if_neg hp]
   refine ⟨_, by lia, rfl, by lia, ?_, s1, e1⟩
   rw [et, qC, qA, if_neg hp, List.filter_nil, List.append_nil]
 ·rintro ys H ⟨rfl, s1, e1⟩
  rw [z6, la, zm] at e1
  exact hd H s1 e1
theorem SA {a b c d : Int} (h1 : 1 ≤ b) (h2 : 1 ≤ d) (h3 : a.natAbs ≤ 999999999) (h4 : b.natAbs ≤ 999999999) (h5 : c.natAbs ≤ 999999999) (h6 : d.natAbs ≤ 999999999) : ¬ QV a b c d := by
 rintro (z | z | ⟨x, hx, z⟩)
 ·lia
 ·lia
 ·simp only [zH, List.not_mem_nil, or_false] at hx
  rcases hx with rfl | rfl | rfl | rfl <;> omega
end TG
namespace L2
open PySem PySem.Spec PyProof.Rows
section
variable {prog : Program} {w : World} {A : Around} {R : Result → Shared → Prop} {I : Addr} {fp wr : List Addr} {G : Array GenState → Array GenState → Prop} {n : Nat} {P : Nat → Value → Prop} {St : Nat → Shared → Prop}
end
section
variable {X : Cx}
end
end L2
namespace TG
open PySem L2
end TG
namespace L2
open PySem PySem.Spec PyProof.Rows
section
variable {M : Model} {A : Around} {E : Value → Shared → Prop} {s : Shared} {B : Heap} {l : List Env} {ea : Addr} {kl a0 fl : Value}
theorem Pi {g : Option Addr} {Q : Unit → Shared → Prop} (st : B.StaysIn s.heap) (ff : s.heap.FunFrames B l) (tr : s.heap.TracedAtW B ea kl a0 fl)
  (q : ∀ h2, B.StaysIn h2 → h2.FunFrames B l → h2.TracedAtW B ea kl a0 (g.elim .none fun f => rawInt f) → s.heap.UpToSlots h2 → Q () { s with heap := h2 }) : wpAny M A (setFlight (.ref ea) g) Q E s := by
 obtain ⟨ob, us, tb, ot, ws, g1, g2, g3, g4, g5, g6, g7, g8, g9⟩ := tr
 have lt3 := (Array.getElem?_eq_some_iff.mp g9).1
 have far : ∀ b, b ≠ tb → (s.heap.update tb (Obj.mapFields (·.setIfInBounds 3 (g.elim Value.none fun f => rawInt f)))).get? b = s.heap.get? b := fun b z => Heap.get?_update_other _ _ z.symm
 have rec' : ∀ b o, s.heap.get? b = some o → (∀ vs, o.data ≠ .fields vs) → b ≠ tb := fun b o e n z => by
  rw [z, g7] at e
  cases e
  exact n ws g8
 unfold setFlight
 refine wpAny_bind (wpAny_field g1 g3 g4 ?_)
 rw [if_pos (by simp)]
 refine wpAny_setField g7 g8 lt3 (q _ ?_ ?_ ?_ ?_)
 ·intro b o e
  refine (far b fun z => ?_).trans (st b o e)
  rw [z, g5] at e
  cases e
 ·exact ff.of_keeps fun b o e n => ⟨o, (far b (rec' b o e n)).trans e, rfl⟩
 ·refine ⟨ob, us, tb, _, _, (far ea g6.symm).trans g1, g2, g3, g4, g5, g6, Heap.get?_update_self _ g7 (Obj.isFreed_of_fields (Obj.data_mapFields g8 _)), Obj.data_mapFields g8 _, ?_⟩
  simp [lt3]
 ·exact fun b o e n => ⟨o.slots, (far b (rec' b o e n)).trans e⟩
theorem Pm {what : String} {cenv : Env} {α : Type} {Q : α → Shared → Prop} (st : B.StaysIn s.heap) (ff : s.heap.FunFrames B l) (tr : s.heap.TracedAtW B ea kl a0 fl)
  (q : ∀ h2 fl', B.StaysIn h2 → h2.FunFrames B l → h2.TracedAtW B ea kl a0 fl' → s.heap.UpToSlots h2 → E (.ref ea) { s with heap := h2 }) : wpAny M A (PySem.passOn what (.ref ea) cenv) Q E s := by
 obtain ⟨ob, us, tb, ot, ws, g1, g2, g3, g4, g5⟩ := id tr
 unfold PySem.passOn
 refine wpAny_bind (wpAny_field g1 g3 g4 ?_)
 rw [if_neg (by simp)]
 refine wpAny_bind (Pi st ff tr fun h2 k1 k2 k3 k4 => ?_)
 exact wpAny_throw (q h2 _ k1 k2 k3 k4)
theorem OW {env : Env} {outer : List Env} {L : Addr} {Q : Unit → Shared → Prop} (fr : A.frames = some (env :: outer)) (el : env.frame = some L) (st : B.StaysIn s.heap) (nb : B.get? ea = none) (ff : s.heap.FunFrames B (env :: outer)) (tr : s.heap.TracedAtW B ea kl a0 fl)
  (q : ∀ h2, Heap.FlyingW B outer ea kl a0 h2 → s.heap.UpToSlots h2 → Q () { s with heap := h2 }) : wpAny M A (leaving env (.ref ea)) Q E s := by
 by_cases here : fl = rawInt L
 ·rw [here] at tr
  unfold leaving
  refine wpAny_bind (wpAny_noteFrame_againW el tr ?_)
  exact wpAny_landsW ⟨st, nb, ff, tr⟩ fun h2 ⟨k1, k2, k3, k4⟩ up => q h2 ⟨k1, k2, k3.2.2, k4⟩ up
 obtain ⟨ob, us, tb, ot, ws, g1, ⟨gc, g0⟩, g3, g4, g5, g6, g7, g8, g9⟩ := tr
 subst gc
 have lt3 := (Array.getElem?_eq_some_iff.mp g9).1
 unfold leaving noteFrame
 simp only [el]
 refine wpAny_bind (wpAny_bind (wpAny_field g1 g3 g4 ?_))
 rw [if_pos (by simp)]
 refine wpAny_bind (wpAny_field g7 g8 g9 ?_)
 rw [if_neg (fun z => here (eq_of_beq z))]
 refine wpAny_bind (wpAny_setField g7 g8 lt3 ?_)
 have far : ∀ b, b ≠ tb → (s.heap.update tb (Obj.mapFields (·.setIfInBounds 3 Value.none))).get? b = s.heap.get? b := fun b z => Heap.get?_update_other _ _ z.symm
 have rec' : ∀ b o, s.heap.get? b = some o → (∀ vs, o.data ≠ .fields vs) → b ≠ tb := fun b o e n z => by
  rw [z, g7] at e
  cases e
  exact n ws g8
 have st1 : B.StaysIn (s.heap.update tb (Obj.mapFields (·.setIfInBounds 3 Value.none))) := fun b o e => (far b fun z => by rw [z, g5] at e; cases e).trans (st b o e)
 have ff1 := ff.of_keeps fun b o e n => ⟨o, (far b (rec' b o e n)).trans e, rfl⟩
 refine wpAny_newEntryW fr ff1 el ((far ea g6.symm).trans g1) st1 nb g3 (Array.getElem?_eq_some_iff.mp g4).1 g0 fun h2 ⟨x1, x2, x3, x4⟩ => q h2 ⟨x1, nb, x2.2.2, x3⟩ fun b o e n => ?_
 exact x4 b o ((far b (rec' b o e n)).trans e) n
end
section
variable {P : Program} {w : World} {K : W.Frag} {mg : Str → Option Value} {base : Heap} {N : List Str} {qual : Str} {scope : Scope} {f : Addr} {cd : Value} {A : Around} {outer : List Env} {s0 : Shared} {H0 : Hp} {E : XK}
 {pins pins' : List (Addr × Obj)} {σ σ' : St} {H H1 : Hp} {s s1 s' : Shared} {sc : Scope} {x : Str} {caps : List Str} {ix : List Nat}
theorem Ot {fp : List Addr} {C : Addr} {acc e : Value} {QQ : Value → Shared → Prop} (S : A8 (A9 (CXE P w) P w K mg base N qual scope f cd A outer s0 H0 E) sc x caps ix) (I : Inv (A9 (CXE P w) P w K mg base N qual scope f cd A outer s0 H0 E) pins σ H s)
  (hf : ∀ b ∈ fp, Hi (A9 (CXE P w) P w K mg base N qual scope f cd A outer s0 H0 E) pins H b) (hC : s.heap.objs.size ≤ C)
  (I1 : Inv (Ai (A9 (CXE P w) P w K mg base N qual scope f cd A outer s0 H0 E) sc (Af (A9 (CXE P w) P w K mg base N qual scope f cd A outer s0 H0 E) caps) (x :: caps) C s H fp) pins' σ' H1 s1) (hfp : ∀ b ∈ fp, ∃ o, s1.heap.get? b = some o)
  (hx : CXE P w (A9 (CXE P w) P w K mg base N qual scope f cd A outer s0 H0 E).stack H1 s1 (fun cls _ H' => E cls none H') e s') :
  notedBy (model P w) (A9 (CXE P w) P w K mg base N qual scope f cd A outer s0 H0 E).A (compEnvC sc (Af (A9 (CXE P w) P w K mg base N qual scope f cd A outer s0 H0 E) caps) C (A9 (CXE P w) P w K mg base N qual scope f cd A outer s0 H0 E).env)
   (fun e s' => compPost (model P w) (A9 (CXE P w) P w K mg base N qual scope f cd A outer s0 H0 E).A (A9 (CXE P w) P w K mg base N qual scope f cd A outer s0 H0 E).xe none QQ acc C (.error e) s') e s' := by
 obtain ⟨ea, cls, H', rfl, os, bare, un, hok, ⟨B, a0, fl, c1, c2⟩, hE⟩ := hx
 have J := I1.call' (ch := []) os un hok bare (fun b z => absurd z (by simp))
 have JX := S.back I hf hC J (Heap.SameBut.refl _ _)
 have J1X := S.back I hf hC I1 (Heap.SameBut.refl _ _)
 show wpAny _ _ (noteFrame (.ref ea) (A9 (CXE P w) P w K mg base N qual scope f cd A outer s0 H0 E).env) _ _ s'
 refine wpAny_looks_onW (env := (A9 (CXE P w) P w K mg base N qual scope f cd A outer s0 H0 E).env) I.ok.frames rfl fl fun h4 held4 up4 => ?_
 have JX4 := Inv.fly (h' := h4) J1X JX fl.1 held4.1 up4 c1 c2
 obtain ⟨m, hn, _⟩ := J.loc
 have hn4 := up4.ns hn
 refine ⟨m, hn4, fun h5 hs cenv _ => ?_⟩
 have JX5 := TD I hC JX4 J.free hs
 have sub : (W.hideAll B [C]).StaysIn B := fun b o e => W.of_hideAll _ e
 have neC : ∀ b o, (W.hideAll B [C]).get? b = some o → b ≠ C := fun b o e z => by
  rw [z, W.hideAll_none [C] (by simp)] at e
  cases e
 have inB : ∀ b o, B.get? b = some o → b ≠ C → ∃ o', (W.hideAll B [C]).get? b = some o' := fun b o e z => ⟨o, W.hideAll_get _ e (by simpa using z)⟩
 have c1' : ∀ b o, s.heap.get? b = some o → b ∉ frs (A9 (CXE P w) P w K mg base N qual scope f cd A outer s0 H0 E).stack → ∃ o', (W.hideAll B [C]).get? b = some o' := fun b o e hb => by
  have hbC : b ≠ C := zP (z9 (zA e) hC)
  have : ∃ o1, s1.heap.get? b = some o1 := by
   by_cases z : b ∈ fp
   ·exact hfp b z
   ·exact I1.base.there b o e z
  obtain ⟨o1, e1⟩ := this
  obtain ⟨o2, e2⟩ := c1 b o1 e1 hb
  exact inB b o2 e2 hbC
 have c2' : ∀ b, H' b ≠ none → ∃ o', (W.hideAll B [C]).get? b = some o' := fun b hb => by
  obtain ⟨o, e⟩ := c2 b hb
  exact inB b o e fun z => hb (by rw [z]; exact J.free)
 have st5 : (W.hideAll B [C]).StaysIn h5 := fun b o e => (hs.2 b (neC b o e)).trans (held4.1 b o (sub b o e))
 have nb5 : (W.hideAll B [C]).get? ea = none := by
  cases q : (W.hideAll B [C]).get? ea with
  | none => rfl
  | some o =>
   have := sub _ _ q
   rw [held4.2.1] at this
   cases this
 have frC : ∀ env ∈ (A9 (CXE P w) P w K mg base N qual scope f cd A outer s0 H0 E).stack, ∀ b ∈ [C], env.frame ≠ some b := fun env he b hb z => by
  rw [zD.mp hb] at z
  obtain ⟨L, o, e1, e2⟩ := PyProof.Rows.funFrames_in I.stack env he
  rw [z] at e1
  cases e1
  exact absurd (z9 (zA e2) hC) (zf _)
 have ff5 := (W.funFrames_hideAll (W.funFrames_base sub held4.2.2.1) frC).of_keeps (h' := h5) fun b o e _ => ⟨o, (hs.2 b fun z => by rw [z, W.hideAll_none [C] (by simp)] at e; cases e).trans (W.of_hideAll _ e), rfl⟩
 have tr5 : h5.TracedAtW (W.hideAll B [C]) ea cls a0 (rawInt (A9 (CXE P w) P w K mg base N qual scope f cd A outer s0 H0 E).env.locals) := by
  obtain ⟨ob, us, tb, ot, ws, g1, g2, g3, g4, g5, g6, g7, g8, g9⟩ := held4.2.2.2
  obtain ⟨oC, es, ep, k1, k2, _⟩ := id hn4
  have nf : ∀ b o vs, h4.get? b = some o → o.data = .fields vs → b ≠ C := fun b o vs e d z => by
   have k1' : h4.get? C = some oC := k1
   rw [z, k1'] at e
   cases e
   rw [k2] at d
   cases d
  refine ⟨ob, us, tb, ot, ws, (hs.2 _ (nf _ _ _ g1 g3)).trans g1, g2, g3, g4, ?_, g6, (hs.2 _ (nf _ _ _ g7 g8)).trans g7, g8, g9⟩
  cases q : (W.hideAll B [C]).get? tb with
  | none => rfl
  | some o =>
   have := sub _ _ q
   rw [g5] at this
   cases this
 refine Pm st5 ff5 tr5 fun h6 fl' k1 k2 k3 k4 => ?_
 refine OW (A := A.deeper (envOfC qual scope s0.heap.objs.size f cd)) (env := envOfC qual scope s0.heap.objs.size f cd) (outer := outer) I.ok.frames rfl k1 nb5 k2 k3 fun h7 fl7 up7 => ?_
 have I7 := Inv.fly (h' := h7) I JX5 st5 fl7.1 (k4.trans up7) c1' c2'
 refine ⟨ea, cls, H', rfl, I7.os, I7.bare, I7.base, I7.hok, ⟨_, a0, fl7, fun b o e hb => ?_, c2'⟩, hE⟩
 obtain ⟨o1, a1⟩ := I.base.there b o e (fun z => absurd (show b ∈ ([] : List Addr) from z) (by simp))
 exact c1' b o1 a1 (I.notStack e hb)
end
section
variable {X : Cx} {pins : List (Addr × Obj)} {σ : St} {H : Hp} {s : Shared} {sc : Scope} {x : Str} {caps : List Str} {ix : List Nat}
theorem Nz {elt iter : Expr} {px pos : Pos} {ifs : List Expr} {te : TE} {tc : TT} {J : It} {fp : List Addr} {it : Addr} {tn : Nat → Heap → Prop} {QH : Addr → Hp → Prop} {RR : Value → Addr → Result → Shared → Prop} {E : Value → Shared → Prop}
  (hc : X.calm = true) (S : A8 X sc x caps ix) (Nn : Value → St → Hp → Prop) (he : ∀ C s H ex pn xe, Jx ((Ai X sc (Af X caps) (x :: caps) C s H ex).trying pn xe) Nn → PE ((Ai X sc (Af X caps) (x :: caps) C s H ex).trying pn xe) elt te) (ht : ∀ C s H ex, PTs (Ai X sc (Af X caps) (x :: caps) C s H ex) ifs tc)
  (I : Inv X pins σ H s) (T : Nv X.prog X.w X.K (.Name x px) J fp it tn) (st : tn 0 s.heap) (hf : ∀ b ∈ fp, Hi X pins H b) (h : ∀ D, H D = none → F0 te tc (Ce σ ix) J D H (QH D))
  (hRR : ∀ D C (ps : List (Addr × Obj)) σ' H' s', s.heap.objs.size ≤ C → Inv (Ai X sc (Af X caps) (x :: caps) C s H fp) ps σ' H' s' → QH D H' → RR (.ref D) C (.ok .next) s')
  (hXE : ∀ D C pins' σ' H1 s1 e s', s.heap.objs.size ≤ C → Inv (Ai X sc (Af X caps) (x :: caps) C s H fp) pins' σ' H1 s1 → (∀ b ∈ fp, ∃ o, s1.heap.get? b = some o) → CXE X.prog X.w X.stack H1 s1 (fun cls _ H' => Nn cls σ' H') e s' →
   notedBy (model X.prog X.w) X.A (compEnvC sc (Af X caps) C X.env) (fun e s' => RR (.ref D) C (.error e) s') e s') :
  wpAny (model X.prog X.w) X.A (newList []) (fun acc s₃ => wpAny (model X.prog X.w) X.A (newFunctionEnv sc X.env.globals (Af X caps) [] X.env.qual none .none (some X.env)) (fun cenv s₄ =>
   codeAny (model X.prog X.w) X.A (.compStart (.ListComp elt [⟨.Name x px, iter, ifs, 0⟩] sc pos) 0 (.ref it) acc { cenv with scope := relabel sc X.env }) (RR acc cenv.locals) s₄) E s₃) E s := by
 refine wpAny_newObj_type (wpAny_newFunctionEnv S.nocell (by intro y hy; simp at hy) (fun h₁ hns₁ hsb₁ => ?_) S.kind)
 dsimp only at hns₁ hsb₁ ⊢
 generalize hH2 : s.heap.push { cls := .type "list", dict := none, data := .seq ([] : List Value).toArray } = H2 at hns₁ hsb₁ ⊢
 have hC : H2.objs.size = s.heap.objs.size + 1 := by rw [← hH2, Heap.size_push]
 have hDC : s.heap.objs.size ≠ H2.objs.size := by rw [hC]; exact zP (Nat.lt_succ_self _)
 have hCle : s.heap.objs.size ≤ H2.objs.size := by rw [hC]; exact Nat.le_succ _
 have below : ∀ b, b < s.heap.objs.size → b ≠ H2.objs.size := fun b hb => by rw [hC]; exact zP (Nat.lt_succ_of_lt hb)
 have old : ∀ b o, s.heap.get? b = some o → h₁.get? b = some o := fun b o e => hsb₁.extBut b o (below b (zA e)) (z7 _ (hH2 ▸ z7 _ e))
 have hacc : h₁.get? s.heap.objs.size = some { cls := .type "list", data := .seq #[] 0 } := hsb₁.extBut _ _ hDC (z7 _ (hH2 ▸ zM _ rfl))
 have hb : ∀ b ∈ fp, b < s.heap.objs.size := fun b hbf => by obtain ⟨o, e, _⟩ := T.obj _ _ st b hbf; exact zA e
 have I1 := S.start (tk := s.toks + ([] : List (Str × Value)).length) I hf hb (zB _) hCle hDC old hacc hns₁
 obtain ⟨W, ⟨m0, w0⟩, turn⟩ := h _ (I.hok.fresh (zB _))
 have stat : ∀ {H' : Hp}, (∀ b ∈ fp, H' b = none) → ∀ b ∈ fp, Hi (Ai X sc (Af X caps) (x :: caps) H2.objs.size s H fp) [] H' b := fun {H'} hn b hbf =>
  ⟨hn b hbf, (I1.ok.exf b hbf).1, I1.ok.exfs b hbf, .inl hbf, (I1.ok.exf b hbf).2, fun p hp => absurd (show p ∈ ([] : List (Addr × Obj)) from hp) (by simp)⟩
 have st1 : tn 0 h₁ := T.keep _ _ _ st fun b hbf o e => old b o e
 have fr1 : ∀ b ∈ fp, upd H s.heap.objs.size (.lst []) b = none := fun b hbf => by
  rw [AJ (zP (hb b hbf))]; exact (hf b hbf).1
 have loop : ∀ s₃ : Shared, s₃ = { s with heap := h₁, toks := s.toks + ([] : List (Str × Value)).length } →
   codeAny (model X.prog X.w) X.A (.compLoop (.ListComp elt [⟨.Name x px, iter, ifs, 0⟩] sc pos) 0 (.ref it) (.ref s.heap.objs.size) (compEnvC sc (Af X caps) H2.objs.size X.env))
    (RR (.ref s.heap.objs.size) H2.objs.size) s₃ := by
  rintro s₃ rfl
  refine J3 (fun n s' => ∃ i ys H' ov, Inv (Ai X sc (Af X caps) (x :: caps) H2.objs.size s H fp) [] (ov :: Ce σ ix) H' s' ∧ tn i s'.heap ∧ (∀ b ∈ fp, H' b = none) ∧ W i n ys H') rfl ?_ m0 ⟨0, [], _, none, I1, st1, fr1, w0⟩
  rintro n s3 ⟨i, ys, H3, ov, I3, st3, fr3, w3⟩
  rcases turn i n ys H3 w3 with ⟨stop, q⟩ | ⟨go, step⟩
  ·refine BL (thn (T.done (Ai X sc (Af X caps) (x :: caps) H2.objs.size s H fp) rfl rfl rfl hc i [] s3 _ H3 _ I3 (stat fr3) st3 stop) fun r s4 zq => ?_)
   obtain ⟨hr, I4⟩ := zq
   subst hr
   exact hRR _ _ _ _ _ _ hCle I4 q
  ·refine BL (thn (T.item (Ai X sc (Af X caps) (x :: caps) H2.objs.size s H fp) rfl rfl rfl hc i [] s3 _ H3 _ I3 (stat fr3) st3 go) fun r s4 zq => ?_)
   obtain ⟨u, hr, h4⟩ := zq
   subst hr
   refine BL (thn h4 fun _ s5 zq => ?_)
   obtain ⟨v, H5, I5, r5, y5, st5, fr5⟩ := zq
   have I5' := I5.pinned (stat fr5) (T.obj _ _ st5)
   have hg : PG (Ai X sc (Af X caps) (x :: caps) H2.objs.size s H fp) (.Name x px) (Cw 0) := NX (i := 0) S.nd rfl (.inl (lookup_relabel_local S.hx)) (.inr (lookup_relabel_local S.hx))
   have again : ∀ {s7 : Shared} {H7 : Hp} {ys' : List V}, Inv (Ai X sc (Af X caps) (x :: caps) H2.objs.size s H fp) ([] ++ Hg fp s5.heap) (some v :: Ce σ ix) H7 s7 → (∃ m', m' < n ∧ W (i + 1) m' ys' H7) →
     ∃ m, m < n ∧ ∃ i ys H' ov, Inv (Ai X sc (Af X caps) (x :: caps) H2.objs.size s H fp) [] (ov :: Ce σ ix) H' s7 ∧ tn i s7.heap ∧ (∀ b ∈ fp, H' b = none) ∧ W i m ys H' := fun {s7 H7 ys'} I7 ⟨m', hm, w7⟩ => by
    refine ⟨m', hm, i + 1, ys', H7, some v, I7.unpinned, T.keep _ _ _ st5 fun b hb o e => (I7.pin (b, o) (zO _ (zO _ (B0 hb e)))).1, fun b hb => ?_, w7⟩
    obtain ⟨o, e, d⟩ := T.obj _ _ st5 b hb
    exact (I7.pin (b, o) (zO _ (zO _ (B0 hb e)))).2.1
   refine BL (thn (hg _ s5 _ H5 v u (fun σ' H' => σ' = some v :: Ce σ ix ∧ H' = H5) I5' r5 ⟨rfl, rfl⟩) fun _ s6 zq => ?_)
   obtain ⟨σ6, H6, I6, e6, e6'⟩ := zq
   subst e6 e6'
   refine BL (thn (ht _ _ _ _ _ s6 _ H6 _ I6 (step v H6 y5)) fun ok s7 zq => ?_)
   obtain ⟨H7, I7, q7⟩ := zq
   cases ok with
   | false => exact again I7 (by simpa using q7)
   | true =>
    rw [if_pos rfl] at q7
    rw [if_pos rfl]
    have pass : Jx ((Ai X sc (Af X caps) (x :: caps) H2.objs.size s H fp).trying ((Ai X sc (Af X caps) (x :: caps) H2.objs.size s H fp).pn ++ ([] ++ Hg fp s5.heap)) (notedBy (model X.prog X.w) X.A (compEnvC sc (Af X caps) H2.objs.size X.env) (fun e s' => RR (.ref s.heap.objs.size) H2.objs.size (.error e) s'))) Nn := fun pins' σ' Ha sa e sb I' hx => by
     have Ia := I'.tried I7.ok
     refine hXE _ _ _ _ _ _ _ _ hCle Ia (fun b hb => ?_) hx
     obtain ⟨o, e, d⟩ := T.obj _ _ st5 b hb
     exact ⟨o, (Ia.pin (b, o) (zO _ (zO _ (B0 hb e)))).1⟩
    refine wpAny_mono (he _ _ _ _ _ _ pass [] s7 _ H7 _ (I7.trying _) q7) (fun yv s8 h8 => ?_) fun e s8 h8 => h8
    obtain ⟨y, H8, I8', r8, hD8, hz8, q8⟩ := h8
    have I8 := I8'.tried I7.ok
    refine BL (thn (Jj _ s8 _ H8 (.ref s.heap.objs.size) [y] _ [yv] (fun _ H9 => H9 = upd H8 s.heap.objs.size (.lst (ys ++ [y]))) I8 rfl (.cons r8 .nil) ⟨_, _, _, rfl, rfl, hD8, hz8, rfl⟩) fun _ s9 zq => ?_)
    obtain ⟨_, H9, I9, _, e9⟩ := zq
    subst e9
    exact again I9 q8
 exact codeAny_compStart_list (loop _ rfl) (T.self _ 0 _ _ _ st1 (loop _ rfl))
end
section
variable {P : Program} {w : World} {K : W.Frag} {mg : Str → Option Value} {base : Heap} {N : List Str} {qual : Str} {scope : Scope} {f : Addr} {cd : Value} {A : Around} {outer : List Env} {s0 : Shared} {H0 : Hp} {E : XK}
 {sc : Scope} {x : Str} {caps : List Str} {ix : List Nat}
theorem RU {elt iter : Expr} {px pos : Pos} {ifs : List Expr} {wi : TI} {te : TE} {tc : TT} (hc : (A9 (CXE P w) P w K mg base N qual scope f cd A outer s0 H0 E).calm = true) (S : A8 (A9 (CXE P w) P w K mg base N qual scope f cd A outer s0 H0 E) sc x caps ix) (hi : PI (A9 (CXE P w) P w K mg base N qual scope f cd A outer s0 H0 E) (.Name x px) iter wi)
  (he : ∀ C s H ex pn xe, Jx ((Ai (A9 (CXE P w) P w K mg base N qual scope f cd A outer s0 H0 E) sc (Af (A9 (CXE P w) P w K mg base N qual scope f cd A outer s0 H0 E) caps) (x :: caps) C s H ex).trying pn xe) (fun cls _ H' => E cls none H') → PE ((Ai (A9 (CXE P w) P w K mg base N qual scope f cd A outer s0 H0 E) sc (Af (A9 (CXE P w) P w K mg base N qual scope f cd A outer s0 H0 E) caps) (x :: caps) C s H ex).trying pn xe) elt te)
  (ht : ∀ C s H ex, PTs (Ai (A9 (CXE P w) P w K mg base N qual scope f cd A outer s0 H0 E) sc (Af (A9 (CXE P w) P w K mg base N qual scope f cd A outer s0 H0 E) caps) (x :: caps) C s H ex) ifs tc)
  (hs : ∀ x, foldedSetIterable iter (A9 (CXE P w) P w K mg base N qual scope f cd A outer s0 H0 E).env x = pure x := by intro _; rfl) : PE (A9 (CXE P w) P w K mg base N qual scope f cd A outer s0 H0 E) (.ListComp elt [⟨.Name x px, iter, ifs, 0⟩] sc pos) (FR wi te tc ix) := by
 intro pins s σ H Q I h
 rw [eval_ListComp]
 refine wpAny_comprehension_free (use := none) rfl hs S.clos S.kind S.names (thn (hi pins s σ H _ I h) fun v s1 h1 => thn h1 fun itv s2 h2 => ?_)
 obtain ⟨it, fp, tn, J, H2, e, I2, T, st2, f2, q⟩ := h2
 subst e
 refine Nz (RR := fun acc C => compPost (model P w) (A9 (CXE P w) P w K mg base N qual scope f cd A outer s0 H0 E).A (A9 (CXE P w) P w K mg base N qual scope f cd A outer s0 H0 E).xe none (EP (A9 (CXE P w) P w K mg base N qual scope f cd A outer s0 H0 E) pins σ Q) acc C) (QH := fun D H' => Q (.ref D) H') hc S (fun cls _ H' => E cls none H') he ht I2 T st2 f2 q ?_ fun D C pins' σ' H1 s1 e s' hC I1 hfp hx => Ot S I2 f2 hC I1 hfp hx
 intro D C ps σ' H' s' hC I' hq
 obtain ⟨m, hn, _⟩ := I'.loc
 exact ⟨m, hn, fun h'' hs => ⟨.ref D, H', S.back I2 f2 hC I' hs, rfl, hq⟩⟩
end
section
variable {X : Cx}
end
end L2
namespace TG
open PySem L2
theorem Ra {gs : List G} (ok : ∀ g ∈ gs, OkG g) (ha : Asc gs) (nb : EC gs) {x0 y0 : G} (hx0 : x0 ∈ gs) (hy0 : y0 ∈ gs) (l0 : x0.p < y0.p) : ∃ x ∈ gs, ∃ y ∈ gs, x.p < y.p ∧ ∀ g ∈ gs, Gh (x.f * y.p - y.h * x.p) (y.h - x.f) (y.p - x.p) g := by
 let ps : List (Int × Int) := gs.flatMap fun x => (gs.filter fun y => decide (x.p < y.p)).map fun y => (y.h - x.f, y.p - x.p)
 have mem : ∀ {x y : G}, x ∈ gs → y ∈ gs → x.p < y.p → (y.h - x.f, y.p - x.p) ∈ ps := fun {x y} hx hy l =>
  List.mem_flatMap.mpr ⟨x, hx, zX.mpr ⟨y, zp.mpr ⟨hy, z5 l⟩, rfl⟩⟩
 have inv : ∀ z ∈ ps, ∃ x ∈ gs, ∃ y ∈ gs, x.p < y.p ∧ z = (y.h - x.f, y.p - x.p) := fun z hz => by
  obtain ⟨x, hx, h2⟩ := List.mem_flatMap.mp hz
  obtain ⟨y, hy, rfl⟩ := zX.mp h2
  obtain ⟨h3, h4⟩ := zp.mp hy
  exact ⟨x, hx, y, h3, z4 h4, rfl⟩
 obtain ⟨z, hz, hm⟩ := Kr ps (fun e => by have := mem hx0 hy0 l0; rw [e] at this; simp at this) (fun z hz => by
  obtain ⟨x, _, y, _, l, rfl⟩ := inv z hz
  show 0 < y.p - x.p
  lia)
 obtain ⟨x, hx, y, hy, l, rfl⟩ := inv z hz
 refine ⟨x, hx, y, hy, l, LS ok hx hy l (fun x' hx' y' hy' l' => hm _ (mem hx' hy' l')) (fun g hg g' hg' e => Kj ha hg hg' e) (fun m hm l1 hb => ?_) (fun m hm l1 hb => ?_)⟩
 ·exact Ga ha nb hm hx hy l1 l (.inl hb)
 ·exact Ga ha nb hx hy hm l l1 (.inr hb)
structure Sv (gs : List G) (ts : List Thr) : Prop where
 ne : ts ≠ []
 ok : ∀ t ∈ ts, OkT t
 one : ∃ t ∈ ts, ∃ g ∈ gs, t.pas g
 two : ∀ x ∈ gs, ∀ y ∈ gs, x.p < y.p → ∃ t ∈ ts, ∀ g : G, t.pas g ↔ Gh (x.f * y.p - y.h * x.p) (y.h - x.f) (y.p - x.p) g
noncomputable def RH (gs : List G) (t : Thr) : Nat := (gs.filter fun g => decide (t.pas g)).length
theorem Oq {gs : List G} {ts : List Thr} {t : Thr} (T : Sv gs ts) (ok : ∀ g ∈ gs, OkG g) (ha : Asc gs) (best : ∀ t' ∈ ts, RH gs t' ≤ RH gs t) (u w m : Int) (hm : 0 < m) (ps : List G) (hs : ps.Sublist gs) (hp : ∀ g ∈ ps, Gh u w m g) : ps.length ≤ RH gs t := by
 match ps, hs, hp with
 | [], _, _ => exact zc _
 | [x], _, _ =>
  obtain ⟨t', ht, g, hg, p⟩ := T.one
  have : 0 < RH gs t' := List.length_pos_iff.mpr fun z => by
   have : g ∈ gs.filter fun g => decide (t'.pas g) := zp.mpr ⟨hg, z5 p⟩
   rw [z] at this
   exact absurd this (by simp)
  exact zL this (best t' ht)
 | x0 :: y0 :: r, hs, hp =>
  generalize hr : x0 :: y0 :: r = ps at *
  have ap : Asc ps := List.Pairwise.sublist hs ha
  have hx0 : x0 ∈ ps := by rw [← hr]; simp
  have hy0 : y0 ∈ ps := by rw [← hr]; simp
  have l0 : x0.p < y0.p := by
   rw [← hr] at ap
   exact (List.pairwise_cons.mp ap).1 y0 (by simp)
  obtain ⟨x, hx, y, hy, l, all⟩ := Ra (fun g hg => ok g (hs.subset hg)) ap (Os ap hm hp) hx0 hy0 l0
  obtain ⟨t', ht, hpas⟩ := T.two x (hs.subset hx) y (hs.subset hy) l
  have hf := hs.filter fun g => decide (t'.pas g)
  rw [List.filter_eq_self.mpr fun g hg => z5 ((hpas g).mpr (all g hg))] at hf
  exact zL hf.length_le (best t' ht)
end TG
namespace LM
open PySem PySem.Spec PySem.Calls PyProof.Rows PySem.W L2
noncomputable abbrev Ge (x : Str) (p1 p2 p3 p4 p5 : Pos) : Expr := .Call (.Name "len" p1) [.Subscript (.Name x p2) (.Constant (.int 0) 0 p3) p4] [] p5
section
variable {prog : Program} {w : World} {A : Around} {E : Value → Shared → Prop} {s : Shared}
theorem Qx {q t l c' : Addr} {x name qual : Str} {params : Arguments} {scope : Scope} {pm ctv : Value} {p1 p2 p3 p4 p5 : Pos} {mg mb : Str → Option Value} {its lits : Array Value} {Q : Value → Shared → Prop}
  (hq : s.heap.get? q = some (kla_obj name qual params (Ge x p1 p2 p3 p4 p5) scope [] pm c' ctv)) (hcd : s.heap.CodeRec (.ref c') qual) (hroom : A.in1.depth < recursionLimit)
  (hbind : ∀ v, bindArgs (kla_fn name qual params (Ge x p1 p2 p3 p4 p5) scope [] pm (.ref c') ctv) ⟨[v], []⟩ = pure [(x, v)])
  (hx : scope.names.lookup x = some .local) (hl : scope.names.lookup ("len" : Str) = some .globalImplicit) (hcell : ∀ y ∈ scope.names, y.2 ≠ .cell) (hk : scope.kind = .function) (hco : scope.isCoroutine = false) (hgen : scope.isGenerator = false)
  (hdx : (x == ("__debug__" : Str)) = false)
  (hg : s.heap.Ns mainGlobals mg) (hm : mg "len" = none) (hb : s.heap.Ns builtinsNs mb) (hbb : mb "len" = bootBuiltins "len") (hlim : s.heap.NoLimit)
  (ht : IsTup s.heap t its) (h0 : its[0]? = some (.ref l)) (hsz : its.size ≤ sizeLine) (hls : s.heap.IsList l lits) (hlz : lits.size ≤ sizeLine)
  (h : ∀ h' tk u, (∀ b o, s.heap.get? b = some o → h'.get? b = some o) → Q (.int lits.size u) { s with heap := h', toks := tk }) :
  wpAny (model prog w) A.in1 (call (.ref q) [.ref t]) Q E s := by
 refine wpAny_call ?_
 refine kla_callFunE hroom hq rfl hco hgen rfl hcd ?_
 rw [hbind]
 refine wpAny_pure (wpAny_newFunctionEnv hcell (by intro y hy; rw [zD.mp hy]; exact hx) (fun h₁ hns hsb => ?_) hk)
 have hk₁ : ∀ b o, s.heap.get? b = some o → h₁.get? b = some o := fun b o e => hsb.extBut b o (zP (zA e)) (z7 _ e)
 refine ⟨hlim.keeps hk₁, ?_⟩
 refine kla_codeExpr ?_
 refine wpAny_Call_Name_kw (Calls.Name_function_global hk hl (Calls.loadGlobal_builtin (hg.keeps hk₁) hm (hb.keeps hk₁) (hbb.trans rfl) ?_) (by decide))
 refine PyProof.Rows.callWith_builtin1 ?_ rfl rfl
 show wpAny _ _ (spliced ((false, eval (.Subscript (.Name x p2) (.Constant (.int 0) 0 p3) p4) _) :: [])) _ _ _
 refine Calls.spliced_cons ?_
 refine Subscript_ (wpAny_Name (wpAny_loadName_local (v := .ref t) hk hx hns (by simp) ?_) hdx)
 refine wpAny_Constant_int ?_
 have ht' := ht.keeps hk₁
 have hls' : h₁.IsList l lits := by obtain ⟨o, e, r⟩ := hls; exact ⟨o, hk₁ _ _ e, r⟩
 have hn := Ku
 refine subscriptTail_builtinR (x := .ref l) ht'.typeIs slot_tuple_getitem.lookup
  (getItem_tuple (j := 0) ht' (by decide) (by decide) (seqIndex_of (by decide) ?_) h0 ⟨rfl, ?_⟩)
 ·have : 0 < its.size := by
   rcases Nat.eq_zero_or_pos its.size with z | z
   ·rw [Array.getElem?_eq_none (by lia)] at h0; cases h0
   ·exact z
  lia
 refine Calls.spliced_nil ?_
 exact Calls.call_len_list hls' (by lia) (h _ _ _ hk₁)
theorem Sa {L l q c' : Addr} {m : Str → Option Value} {x name qual : Str} {params : Arguments} {scope : Scope} {pm ctv : Value} {p1 p2 p3 p4 p5 : Pos} {mg mb : Str → Option Value} {vs : List Value} {kf : Nat → Nat} {Q : Value → Shared → Prop}
  (hL : s.heap.Ns L m) (hqL : q ≠ L) (hcL : c' ≠ L) (hh : A.handled = none) (hgL : mainGlobals ≠ L) (hbL : builtinsNs ≠ L)
  (hq : s.heap.get? q = some (kla_obj name qual params (Ge x p1 p2 p3 p4 p5) scope [] pm c' ctv)) (hcd : s.heap.CodeRec (.ref c') qual) (hroom : A.in1.depth < recursionLimit)
  (hbind : ∀ v, bindArgs (kla_fn name qual params (Ge x p1 p2 p3 p4 p5) scope [] pm (.ref c') ctv) ⟨[v], []⟩ = pure [(x, v)])
  (hx : scope.names.lookup x = some .local) (hl : scope.names.lookup ("len" : Str) = some .globalImplicit) (hcell : ∀ y ∈ scope.names, y.2 ≠ .cell) (hk : scope.kind = .function) (hco : scope.isCoroutine = false) (hgen : scope.isGenerator = false)
  (hdx : (x == ("__debug__" : Str)) = false)
  (hg : s.heap.Ns mainGlobals mg) (hm : mg "len" = none) (hb : s.heap.Ns builtinsNs mb) (hbb : mb "len" = bootBuiltins "len") (hlim : ∀ h : Heap, (∀ b o, b ≠ L → s.heap.get? b = some o → h.get? b = some o) → h.NoLimit)
  (hll : s.heap.IsList l vs.toArray) (hlL : l ≠ L) (hne : 0 < vs.length)
  (hvs : ∀ (i : Nat) (v : Value), vs[i]? = some v → ∃ t pl its lits, v = .ref t ∧ t ≠ L ∧ pl ≠ L ∧ IsTup s.heap t its ∧ its[0]? = some (.ref pl) ∧ its.size ≤ sizeLine ∧ s.heap.IsList pl lits ∧ lits.size ≤ sizeLine ∧ lits.size = kf i)
  (h : ∀ i v h' tk', vs[i]? = some v → (∀ j, j < vs.length → kf j ≤ kf i ∧ (j < i → kf j < kf i)) → h'.Ns L m → (∀ b o, b ≠ L → s.heap.get? b = some o → h'.get? b = some o) → Q v { s with heap := h', toks := tk' }) :
  wpAny (model prog w) A (call (.builtin "max") [.ref l] [(Str.ofString "key", .ref q)]) Q E s := by
 obtain ⟨oL, _, _, hoL, _⟩ := id hL
 have hN : News (Att.noObjs s.heap) L s.heap (Att.ledger s.heap L L) := fun ⟨a, o⟩ hp => ⟨(Att.mem_ledger.mp hp).2.2, (Att.mem_ledger.mp hp).1, Att.noObjs_get _ _⟩
 have kOf : ∀ {h : Heap} {own : List (Addr × Obj)}, News (Att.noObjs s.heap) L h (Att.ledger s.heap L L ++ own) → ∀ b o, b ≠ L → s.heap.get? b = some o → h.get? b = some o :=
  fun N b o nb e => (N (b, o) (zy _ (Att.mem_ledger.mpr ⟨nb, nb, e⟩))).1
 have kOf' : ∀ {h : Heap}, News (Att.noObjs s.heap) L h (Att.ledger s.heap L L) → ∀ b o, b ≠ L → s.heap.get? b = some o → h.get? b = some o :=
  fun N b o nb e => (N (b, o) (Att.mem_ledger.mpr ⟨nb, nb, e⟩)).1
 refine kmk_max (fun i => (kf i : Int)) hh (Att.fr_all hL) hN (fun h' F N => ?_) hne (fun i v hv h' tk own F N => ?_) fun i v h' tk' hv hbest F N => ?_
 ·obtain ⟨o, e, r⟩ := hll
  exact ⟨o, kOf' N _ _ hlL e, r⟩
 ·obtain ⟨t, pl, its, lits, rfl, ntL, nplL, ht, h0, hsz, hpl, hlz, hkf⟩ := hvs i v hv
  have k := kOf N
  refine Qx (s := { s with heap := h', toks := tk }) (its := its) (lits := lits) (l := pl) (mg := mg) (mb := mb) (k _ _ hqL hq) ?_ hroom hbind hx hl hcell hk hco hgen hdx ?_ hm ?_ hbb (hlim h' k) ?_ h0 hsz ?_ hlz fun h'' tk2 u k2 => ?_
  ·obtain ⟨c, oc, vs, tq, hc, hoc, r⟩ := hcd
   cases hc
   exact ⟨c', oc, vs, tq, rfl, k _ _ hcL hoc, r⟩
  ·obtain ⟨o, es, ep, e, r⟩ := hg
   exact ⟨o, es, ep, k _ _ hgL e, r⟩
  ·obtain ⟨o, es, ep, e, r⟩ := hb
   exact ⟨o, es, ep, k _ _ hbL e, r⟩
  ·obtain ⟨o, e, r⟩ := ht
   exact ⟨o, k _ _ ntL e, r⟩
  ·obtain ⟨o, e, r⟩ := hpl
   exact ⟨o, k _ _ nplL e, r⟩
  ·rw [hkf]
   refine ⟨h'', tk2, u, rfl, rfl, ⟨F.ns.keeps k2, fun b o e => ?_, F.above⟩, fun p hp => ⟨k2 _ _ (N p hp).1, (N p hp).2⟩⟩
   rw [Att.noObjs_get] at e; cases e
 ·exact h i v h' tk' hv (fun j hj => by have := hbest j hj; exact ⟨by have := this.1; lia, fun z => by have := this.2 z; lia⟩) F.ns (kOf' N)
end
noncomputable def Tbl (H : Hp) (P : Addr) (pos : Pos) (qual : Str) : Prop :=
 H P = some (.tbl #[]) ∨ ∃ c o u vs t, H P = some (.tbl #[rawInt pos.line, rawInt pos.col, .ref c]) ∧ H c = some (.frz o u) ∧ o.data = .fields vs ∧ vs[1]? = some (.str qual t)
theorem Tbl.tab {H : Hp} {P : Addr} {pos : Pos} {qual : Str} (h : Tbl H P pos qual) : ∃ ps, H P = some (.tbl ps) := by
 rcases h with h | ⟨c, _, _, _, _, h, _⟩
 ·exact ⟨_, h⟩
 ·exact ⟨_, h⟩
section
variable {X : Cx} {pins : List (Addr × Obj)} {σ : L2.St} {H : Hp} {s : Shared} {h' : Heap}
theorem RN {h h' : Heap} {L : Addr} {m m' : Str → Option Value} (a : h.Ns L m) (b : h'.Ns L m) (c : h.Ns L m') : h'.Ns L m' := by
 rw [c.eq_nsMap, ← a.eq_nsMap]; exact b
theorem keptL {t' : Nat} {m : Str → Option Value} (I : Inv X pins σ H s) (hm : s.heap.Ns X.env.locals m) (hm' : h'.Ns X.env.locals m) (k : ∀ b o, b ≠ X.env.locals → s.heap.get? b = some o → h'.get? b = some o) : Inv X pins σ H { s with heap := h', toks := t' } := by
 have nL : ∀ b u, H b = some u → b ≠ X.env.locals := fun b u e z => by rw [z, I.free] at e; cases e
 refine I.step (g' := s.gens) (d' := s.drawn) (ch := []) (fun _ z => nomatch z) (fun b o hb _ _ e _ => k b o hb e) (fun b o hb _ _ e _ => ⟨o.slots, k b o hb e⟩) (fun _ _ _ _ n => n) (fun b o _ e => ?_) (fun _ _ e => e) (fun _ _ _ e => e) (fun b ps e => ⟨#[], by rw [e]; simp⟩) (fun m2 h2 => RN hm hm' h2) (fun b u e => ?_) I.bare
 ·by_cases hb : b = X.env.locals
  ·obtain ⟨o', _, _, e', _⟩ := hm'
   exact ⟨o', by rw [hb]; exact e'⟩
  ·exact ⟨o, k b o hb e⟩
 ·refine (I.hok b u e).stay (fun c v hc q => k c v ?_ q) (fun _ q => q) fun _ _ q => q
  rcases hc with rfl | hc
  ·exact nL _ _ e
  ·exact nL _ _ hc
theorem To {t' : Nat} {m : Str → Option Value} {P c : Addr} {ps : Array Value} {v : Value} {l1 l2 : Value} {oc : Obj} (I : Inv X pins σ H s) (hP : H P = some (.tbl ps)) (hc : s.heap.objs.size ≤ c) (hcL : c ≠ X.env.locals) (hm : s.heap.Ns X.env.locals m) (hm' : h'.Ns X.env.locals m)
  (k : ∀ b o, b ≠ X.env.locals → b ≠ P → s.heap.get? b = some o → h'.get? b = some o) (kP : h'.get? P = some (W.tabObj (ps ++ #[l1, l2, v]))) (kc : h'.get? c = some oc) :
  Inv X pins σ (upd (upd H P (.tbl (ps ++ #[l1, l2, v]))) c (.frz oc (.ext fun _ => True))) { s with heap := h', toks := t' } := by
 have nL : ∀ b u, H b = some u → b ≠ X.env.locals := fun b u e z => by rw [z, I.free] at e; cases e
 have nc : ∀ b u, H b = some u → b ≠ c := fun b u e z => by rw [z, I.hok.fresh hc] at e; cases e
 have nc' : ∀ b o, s.heap.get? b = some o → b ≠ c := fun b o e => zP (z9 (zA e) hc)
 have nP : ∀ b, H b = none → b ≠ P := fun b e z => by rw [z, hP] at e; cases e
 have get : ∀ b u, H b = some u → b ≠ P → upd (upd H P (.tbl (ps ++ #[l1, l2, v]))) c (.frz oc (.ext fun _ => True)) b = some u := fun b u e z => by rw [AJ (nc b u e), AJ z]; exact e
 refine I.step (g' := s.gens) (d' := s.drawn) (ch := []) (fun _ z => nomatch z) (fun b o hb _ _ e n => k b o hb (nP b n) e) (fun b o hb _ _ e n => ⟨o.slots, k b o hb (nP b n) e⟩) (fun b o _ e n => by rw [AJ (nc' b o e), AJ (nP b n)]; exact n) (fun b o _ e => ?_)
  (fun b xs e => get b _ e fun z => by rw [z, hP] at e; cases e) (fun b o u e => get b _ e fun z => by rw [z, hP] at e; cases e) (fun b qs e => ?_) (fun m2 h2 => RN hm hm' h2) (fun b u e => ?_) I.bare
 ·by_cases hb : b = X.env.locals
  ·obtain ⟨o', _, _, e', _⟩ := hm'
   exact ⟨o', by rw [hb]; exact e'⟩
  ·by_cases hb2 : b = P
   ·exact ⟨_, by rw [hb2]; exact kP⟩
   ·exact ⟨o, k b o hb hb2 e⟩
 ·by_cases hb : b = P
  ·subst hb
   rw [hP] at e; cases e
   exact ⟨#[l1, l2, v], by rw [AJ (nc b _ hP), AQ]⟩
  ·exact ⟨#[], by rw [get b _ e hb]; simp⟩
 ·by_cases hb : b = c
  ·subst hb
   rw [AQ] at e; cases e
   exact ⟨kc, trivial, ⟨_, kc⟩, fun _ _ _ _ => trivial⟩
  ·rw [AJ hb] at e
   by_cases hb2 : b = P
   ·subst hb2
    rw [AQ] at e; cases e
    exact kP
   ·rw [AJ hb2] at e
    refine (I.hok b u e).stay (fun d w hd q => k d w ?_ ?_ q) (fun d q => get d _ q fun z => by rw [z, hP] at q; cases q) fun d xs q => get d _ q fun z => by rw [z, hP] at q; cases q
    ·rcases hd with rfl | hd
     ·exact nL _ _ e
     ·exact nL _ _ hd
    ·rcases hd with rfl | hd
     ·exact hb2
     ·intro z; rw [z, hP] at hd; cases hd
end
structure Nu (K : W.Frag) (mg : Str → Option Value) (cd : Value) (c P : Addr) : Prop where
 cd : cd = .ref c
 hd : ∀ h, K.In h → W.CodeHd h c P
 bm : ∀ h, K.In h → ∃ bm o, mg "__builtins__" = some (.ref bm) ∧ bm ≠ builtinsNs ∧ bm ≠ mainGlobals ∧ h.get? bm = some o ∧ o.cls = .type "module" ∧ o.dict = some builtinsNs ∧ o.data = .plain
structure LamOk (x : Str) (params : Arguments) (scope : Scope) : Prop where
 df : params.defaults = []
 kd : params.kw_defaults = []
 bind : ∀ name qual body cl pm cdv ct v, bindArgs (kla_fn name qual params body scope cl pm cdv ct) ⟨[v], []⟩ = pure [(x, v)]
 hx : scope.names.lookup x = some .local
 hl : scope.names.lookup ("len" : Str) = some .globalImplicit
 cell : ∀ y ∈ scope.names, y.2 ≠ .cell
 kind : scope.kind = .function
 co : scope.isCoroutine = false
 gen : scope.isGenerator = false
 db : (x == ("__debug__" : Str)) = false
 clos : ∀ env, closureFor scope env = pure []
noncomputable def tMaxK (K : W.Frag) (P : Addr) (lpos : Pos) (qual : Str) (t : TE) : TE := fun σ H Q => t σ H fun v H1 => ∃ (l : Addr) (xs : List V) (kf : Nat → Nat), v = .ref l ∧ SqL K H1 l xs ∧ 0 < xs.length ∧ Tbl H1 P lpos qual ∧
 (∀ i y, xs[i]? = some y → ∃ p pl z ys, y = .ref p ∧ SqT K H1 p (.ref pl :: z) ∧ SqL K H1 pl ys ∧ ys.length = kf i) ∧
 ∀ i y H2, xs[i]? = some y → (∀ j, j < xs.length → kf j ≤ kf i ∧ (j < i → kf j < kf i)) → Tbl H2 P lpos qual → (∀ b u, b ≠ P → H1 b = some u → H2 b = some u) → Q y H2
section
variable {X : Cx}
theorem Sl {c P : Addr} {x : Str} {e : Expr} {te : TE} {params : Arguments} {scope : Scope} {p p1 p2 p3 p4 p5 lpos kp pos : Pos} (hg : Gl X "max") (hm : X.mg "max" = none) (hml : X.mg "len" = none) (hr : BY 2 X.A) (LA : Nu X.K X.mg X.env.code c P) (LO : LamOk x params scope) (hpe : PE X e te)
  (hse : starEach [e] X.env = (false, eval e X.env) :: starEach [] X.env := by rfl) :
  PE X (.Call (.Name "max" p) [e] [⟨some "key", .Lambda params (Ge x p1 p2 p3 p4 p5) scope lpos, kp⟩] pos) (tMaxK X.K P lpos (X.env.qual ++ "<lambda>") te) := by
 intro pins s σ H Q I h
 refine wpAny_Call_Name_kw (Hk I hg hm (u := .builtin "max") rfl ?_)
 refine callWith_kw ?_ (by rw [hse]; rfl) (by rw [hse]; rfl) rfl rfl
 rw [hse]
 show wpAny _ _ (spliced ((false, eval e X.env) :: [])) _ _ s
 refine Calls.spliced_cons (thn (hpe pins s σ H _ I h) fun u s1 ⟨v, H1, I1, r1, q1⟩ => Calls.spliced_nil ?_)
 obtain ⟨l, xs, kf, rfl, hl, h0, tb, hxs, k⟩ := q1
 cases r1
 refine kws_cons (kla_eval (by rw [defaultsOf_eq, LO.df, LO.kd]; rfl) ?_)
 obtain ⟨its, ri, pl, hz⟩ := I1.list hl
 obtain ⟨m, hn, hlook⟩ := id I1.loc
 obtain ⟨mb, hb1, hb2⟩ := I1.mod.blt
 have hG := I1.mod.glob.keeps I1.bk
 have hB := hb1.keeps I1.bk
 obtain ⟨ps, hP⟩ := tb.tab
 have gP : s1.heap.get? P = some (W.tabObj ps) := I1.hok P _ hP
 have nLP : X.env.locals ≠ P := fun z => by have := I1.free; rw [z, hP] at this; cases this
 have bP : ∀ b o, X.base.get? b = some o → b ≠ P := fun b o e z => by have := (I1.bs b o e).2; rw [z, hP] at this; cases this
 have bL : ∀ b o, X.base.get? b = some o → b ≠ X.env.locals := fun b o e => zP (z9 (zA e) (zL I1.ok.bsz I1.ok.above))
 have gM : ∃ o, X.base.get? mainGlobals = some o := let ⟨o, _, _, e, _⟩ := I1.mod.glob; ⟨o, e⟩
 have gB : ∃ o, X.base.get? builtinsNs = some o := let ⟨o, _, _, e, _⟩ := hb1; ⟨o, e⟩
 have lstN : ∀ a its, s1.heap.IsList a its → a ≠ P ∧ a ≠ X.env.locals := fun a its ⟨o, e, c1, n, d1⟩ => by
  refine ⟨fun z => ?_, fun z => ?_⟩
  ·rw [z, gP] at e; cases e; cases c1
  ·obtain ⟨o', _, _, e', d', _⟩ := id hn
   rw [z, e'] at e; cases e; rw [d'] at d1; cases d1
 have tupN : ∀ a its, IsTup s1.heap a its → a ≠ P ∧ a ≠ X.env.locals := fun a its ⟨o, e, c1, n, d1⟩ => by
  refine ⟨fun z => ?_, fun z => ?_⟩
  ·rw [z, gP] at e; cases e; cases c1
  ·obtain ⟨o', _, _, e', d', _⟩ := id hn
   rw [z, e'] at e; cases e; rw [d'] at d1; cases d1
 have run : ∀ (h2 : Heap) (tk : Nat) (q c' : Addr) (ctv : Value), (∀ b o, b ≠ P → s1.heap.get? b = some o → h2.get? b = some o) → q ≠ X.env.locals → c' ≠ X.env.locals →
   h2.get? q = some (kla_obj "<lambda>" (X.env.qual ++ "<lambda>") params (Ge x p1 p2 p3 p4 p5) scope [] ((X.mg "__name__").getD .none) c' ctv) → h2.CodeRec (.ref c') (X.env.qual ++ "<lambda>") →
   (∀ (h3 : Heap) (tk3 : Nat), h3.Ns X.env.locals m → (∀ b o, b ≠ X.env.locals → h2.get? b = some o → h3.get? b = some o) → ∃ H2, Inv X pins σ H2 { s1 with heap := h3, toks := tk3 } ∧ Tbl H2 P lpos (X.env.qual ++ "<lambda>") ∧ ∀ b u, b ≠ P → H1 b = some u → H2 b = some u) →
   wpAny (model X.prog X.w) X.A (call (.builtin "max") [.ref l] [(Str.ofString "key", .ref q)]) (EP X pins σ Q) X.xe { s1 with heap := h2, toks := tk } := by
  intro h2 tk q c' ctv k2 hqL hcL hq hcd fin
  have ll := lstN l _ pl.isList
  refine Sa (s := { s1 with heap := h2, toks := tk }) (L := X.env.locals) (m := m) (mg := X.mg) (mb := mb) (vs := its) (kf := kf) ?_ hqL hcL hr.hd ?_ ?_ hq hcd ?_ (fun v => LO.bind _ _ _ _ _ _ _ v) LO.hx LO.hl LO.cell LO.kind LO.co LO.gen LO.db ?_ hml ?_ (hb2 _ (by decide)) (fun h3 k3 => ?_) ?_ ll.2 ?_ (fun i v hv => ?_) fun i v h3 tk3 hv best hns k3 => ?_
  ·obtain ⟨o, es, ep, e, r⟩ := hn
   exact ⟨o, es, ep, k2 _ _ nLP e, r⟩
  ·obtain ⟨o, e⟩ := gM
   exact bL _ _ e
  ·obtain ⟨o, e⟩ := gB
   exact bL _ _ e
  ·have := hr.dp
   show X.A.depth < _
   lia
  ·exact I1.mod.glob.keeps fun b o e => k2 b o (bP b o e) (I1.bk b o e)
  ·exact hb1.keeps fun b o e => k2 b o (bP b o e) (I1.bk b o e)
  ·exact I1.mod.nolimit.keeps fun b o e => k3 b o (bL b o e) (k2 b o (bP b o e) (I1.bk b o e))
  ·obtain ⟨o, e, r⟩ := pl.isList
   exact ⟨o, k2 _ _ ll.1 e, r⟩
  ·rw [← ri.length]; exact h0
  ·have hi := (z8.mp hv).1
   have hi' : i < xs.length := by rw [ri.length]; exact hi
   obtain ⟨v', ev', rv'⟩ := ri.get (z0 hi')
   rw [hv] at ev'; cases ev'
   obtain ⟨pp, pa, z, ys, ey, hT, hLs, hlen⟩ := hxs i _ (z0 hi')
   rw [ey] at rv'
   cases rv'
   obtain ⟨it2, r2, pt, hz2⟩ := I1.tuple hT
   obtain ⟨it3, r3, pl3, hz3⟩ := I1.list hLs
   obtain ⟨w0, ew0, rw0⟩ := r2.get (i := 0) (x := .ref pa) rfl
   cases rw0
   have t1 := tupN _ _ pt
   have t2 := lstN _ _ pl3.isList
   refine ⟨pp, pa, it2.toArray, it3.toArray, rfl, t1.2, t2.2, ?_, by simpa using ew0, ?_, ?_, ?_, ?_⟩
   ·obtain ⟨o, e, r⟩ := pt
    exact ⟨o, k2 _ _ t1.1 e, r⟩
   ·rw [zJ, ← r2.length]; exact hz2
   ·obtain ⟨o, e, r⟩ := pl3.isList
    exact ⟨o, k2 _ _ t2.1 e, r⟩
   ·rw [zJ, ← r3.length]; exact hz3
   ·rw [zJ, ← r3.length]; exact hlen
  ·have hi := (z8.mp hv).1
   have hi' : i < xs.length := by rw [ri.length]; exact hi
   obtain ⟨v', ev', rv'⟩ := ri.get (z0 hi')
   rw [hv] at ev'; cases ev'
   obtain ⟨H2, I2, tb2, s2⟩ := fin h3 tk3 hns k3
   exact ⟨_, H2, I2, rv', k i _ H2 (z0 hi') (fun j hj => best j (by rw [← ri.length]; exact hj)) tb2 s2⟩
 obtain ⟨bm, ob, b1, b2, b3, b4, b5⟩ := LA.bm _ I1.mod.kin
 have hBA : s1.heap.BuiltinsAt X.mg P := ⟨bm, ob, b1, b2, b3, bP _ _ b4, I1.bk _ _ b4, b5⟩
 have hCH : W.CodeHd s1.heap c P := LA.hd _ I1.kIn
 have hgP : mainGlobals ≠ P := let ⟨_, e⟩ := gM; bP _ _ e
 have lL : X.env.locals < s1.heap.objs.size := I1.lt
 rcases id tb with tb0 | ⟨c0, o0, u0, vs0, t0, e1, e2, e3, e4⟩
 ·-- the first call
  rw [hP] at tb0; cases tb0
  refine kla_makeFunction (LO.clos _) I1.ok.glob hG LA.cd hCH gP trivial rfl hgP hBA fun c' ctv h' tk hx hge hlt hrec htb => ?_
  refine kws_nil ?_
  obtain ⟨c2, oc, vs2, t2, ec, goc, hd2, hv2⟩ := id hrec
  cases ec
  have ncP : c' ≠ P := zi (z9 (zA gP) hge)
  refine run _ _ _ c' ctv (fun b o n e => z7 _ (hx b o n e)) ?_ (zi (z9 lL hge)) (zM _ rfl) ⟨c', oc, vs2, t2, rfl, z7 _ goc, hd2, hv2⟩ fun h3 tk3 ns3 k3 => ?_
  ·exact zi (Nat.lt_trans (z9 lL hge) hlt)
  ·refine ⟨_, To (c := c') (oc := oc) I1 hP hge (zi (z9 lL hge)) hn ns3 (fun b o n1 n2 e => k3 b o n1 (z7 _ (hx b o n2 e))) (k3 _ _ (Ne.symm nLP) (z7 _ htb)) (k3 _ _ (zi (z9 lL hge)) (z7 _ goc)), .inr ⟨c', oc, _, vs2, t2, ?_, AQ, hd2, hv2⟩, fun b u n e => ?_⟩
   ·rw [AJ (Ne.symm ncP), AQ]; rfl
   ·rw [AJ (fun z => by rw [z, I1.hok.fresh hge] at e; cases e), AJ n]; exact e
 ·-- a later call
  rw [hP] at e1; cases e1
  obtain ⟨g0, _⟩ := I1.hok c0 _ e2
  have n0L : c0 ≠ X.env.locals := fun z => by have := I1.free; rw [← z, e2] at this; cases this
  refine kla_makeFunctionHit (cv := .ref c0) (LO.clos _) I1.ok.glob hG LA.cd hCH gP ?_ ?_ hBA fun ctv h' tk hx hsz => ?_
  ·exact TriplesOk_snoc _ _ _ [] trivial
  ·exact codeAmong_snoc [] trivial rfl
  refine kws_nil ?_
  refine run _ _ _ c0 ctv (fun b o _ e => z7 _ (hx b o e)) (zi (z9 lL hsz)) n0L (zM _ rfl) ⟨c0, o0, vs0, t0, rfl, z7 _ (hx _ _ g0), e3, e4⟩ fun h3 tk3 ns3 k3 => ?_
  exact ⟨H1, keptL I1 hn ns3 fun b o n e => k3 b o n (z7 _ (hx b o e)), tb, fun _ _ _ e => e⟩
end
noncomputable def Q2 (T : Addr) (H : Hp) : Prop := H T = some (.tbl #[]) ∧ ∀ b, H b = none ∨ (∃ o xs, H b = some (.frz o (.lst xs))) ∨ b = T
theorem Pl {T : Addr} {P : Program} {w : World} {K : W.Frag} {mg mb : Str → Option Value} {CX : CXT} {k : Nat} {fa a : Addr} {fd : FuncData} {x : Str} {sp : Sp} {s₁ : Shared} {vs : List Value} {ns : List Int}
  (KX : K.In s₁.heap) (hT : s₁.heap.get? T = some (W.tabObj #[])) (isT : isCodeTable s₁.heap T) (hKT : K.lookup T = none) (hns : s₁.heap.Ns mainGlobals mg) (hb : s₁.heap.Ns builtinsNs mb) (hbb : ∀ x : Str, x ≠ "__name__" → mb x = bootBuiltins x) (hlim : s₁.heap.NoLimit) (hg : s₁.gens = #[])
  (ha : s₁.heap.get? a = some { cls := .type "list", data := .seq vs.toArray }) (hi : IntsAre vs ns) (hl : ns.length ≤ sizeLine) (hr : BY k callerA)
  (F : ∀ base : Heap, K.In base → base.Ns mainGlobals mg → Aj P w K mg base CX k fa fd [x] sp) (hbind : ∀ (s : Shared) (u : Value), BindsTo s fd ⟨[u], []⟩ [(x, u)])
  (hsp : ∀ H : Hp, Q2 T H → SqL K H a (ns.map V.int) → sp [.ref a] H (fun v _ => v = .bl true) fun _ _ _ => False)
  (hCX : ∀ H e s', CX [] H s₁ (fun _ _ _ => False) e s' → False) :
  codeAny (model P w) callerA (.call (.ref fa) ⟨[.ref a], []⟩) (fun r s' => r = .ok (.ret (.bool true)) ∧ OldK s₁.heap s'.heap ∧ s'.os = s₁.os ∧ AllBare s'.gens) s₁ := by
 have rv := M1 hi
 have lenV := hi.length
 have core : ∀ H : Hp, Q2 T H → SqL K H a (ns.map V.int) → HOk P w H s₁.heap → (∀ b, H b ≠ none → b = a ∨ b = T) → (H a ≠ none → K.lookup a = none) →
   codeAny (model P w) callerA (.call (.ref fa) ⟨[.ref a], []⟩) (fun r s' => r = .ok (.ret (.bool true)) ∧ OldK s₁.heap s'.heap ∧ s'.os = s₁.os ∧ AllBare s'.gens) s₁ := by
  intro H hO hS hok hA hK
  have base_of : ∀ {b : Addr} {o : Obj}, s₁.heap.get? b = some o → H b = none → (M8 s₁.heap H).get? b = some o := fun e n => RI e n
  have noA : ∀ {b : Addr} {o : Obj} {es : Array DictEntry} {ep : Nat}, s₁.heap.get? b = some o → o.data = .dict es ep → H b = none := fun {b o es ep} e d => by
   cases q : H b with
   | none => rfl
   | some u =>
    rcases hA b (by rw [q]; simp) with e' | e'
    ·subst e'
     rw [ha] at e; cases e
     have d' : Data.seq vs.toArray _ = Data.dict es ep := d
     cases d'
    ·subst e'
     rw [hT] at e; cases e
     have d' : Data.fields _ = Data.dict es ep := d
     cases d'
  have nsK : ∀ {b : Addr} {m : Str → Option Value}, s₁.heap.Ns b m → (M8 s₁.heap H).Ns b m := fun {b m} ⟨o, es, ep, e, d, r⟩ => ⟨o, es, ep, base_of e (noA e d), d, r⟩
  have hKb : K.In (M8 s₁.heap H) := fun b o e => base_of (KX b o e) (by
   cases q : H b with
   | none => rfl
   | some u =>
    rcases hA b (by rw [q]; simp) with e' | e'
    ·subst e'
     rw [hK (by rw [q]; simp)] at e; cases e
    ·subst e'
     rw [hKT] at e; cases e)
  have hM : Mod K mg (M8 s₁.heap H) := ⟨hKb, nsK hns, ⟨mb, nsK hb, hbb⟩, let ⟨mc, h1, h2⟩ := hlim; ⟨mc, nsK h1, h2⟩⟩
  have e0 : NG P w K mg (M8 s₁.heap H) callerA [] s₁ H := ⟨rfl, hM, fun b o e => SC e, Nat.le_of_eq (Py _ _), trivial, fun b hb => absurd (show b ∈ ([] : List Addr) from hb) (by simp), hok, .of_eq hg⟩
  refine codeAny_mono ((F _ hKb (nsK hns)).run callerA [] s₁ H ⟨[.ref a], []⟩ [.ref a] [.ref a] _ _ hr e0 (hbind s₁ (.ref a)) (.cons rfl .nil) (hsp H hO hS)) fun r s' h => ?_
  cases r with
  | error e => exact (hCX H e s' h).elim
  | ok fl =>
   cases fl with
   | next => exact False.elim h
   | brk => exact False.elim h
   | cont => exact False.elim h
   | ret u =>
    obtain ⟨v, H', os, bare, un, hok', r', q⟩ := h
    have q' : v = .bl true := q
    subst q'
    obtain rfl : u = Value.bool true := r'
    refine ⟨rfl, ⟨fun b o e => ?_, fun b o e => un.there b o e (by simp)⟩, os, bare⟩
    cases q : H b with
    | none => exact .inl (un.keep b o e q (by intro z; exact absurd (show b ∈ ([] : List Addr) from z) (by simp)) (by simp))
    | some u =>
     rcases hO.2 b with z | ⟨ob, xs, z⟩ | z
     ·rw [q] at z; cases z
     ·have z2 := un.frzs b ob _ z
      obtain ⟨e1, _⟩ := hok b _ z
      obtain ⟨e2, _⟩ := hok' b _ z2
      rw [e] at e1; cases e1
      exact .inl e2
     ·subst z
      obtain ⟨more, z2⟩ := un.tbls b _ hO.1
      have e2 : s'.heap.get? b = some { cls := .none, data := .fields (#[] ++ more) } := hok' b _ z2
      rw [hT] at e; cases e
      exact .inr (.inl ⟨isT, rfl, #[], more, rfl, e2⟩)
 have naT : a ≠ T := fun z => by rw [z, hT] at ha; cases ha
 cases hk : K.lookup a with
 | some o =>
  have e := KX a o hk
  rw [ha] at e
  cases e
  refine core (fun b => if b = T then some (.tbl #[]) else none) ⟨if_pos rfl, fun b => ?_⟩ (.inr ⟨_, vs.toArray, _, hk, rfl, rfl, rfl, by rw [zJ, lenV]; exact hl, by simpa using rv⟩) (fun b u z => ?_) (fun b z => ?_) fun z => absurd (if_neg naT) z
  ·by_cases hb : b = T
   ·exact .inr (.inr hb)
   ·exact .inl (if_neg hb)
  ·by_cases hb : b = T
   ·have z' := (if_pos hb).symm.trans z
    cases z'
    subst hb
    exact hT
   ·have z' := (if_neg hb).symm.trans z
    cases z'
  ·by_cases hb : b = T
   ·exact .inr hb
   ·exact absurd (if_neg hb) z
 | none =>
  refine core (fun b => if b = T then some (.tbl #[]) else if b = a then some (.frz { cls := .type "list", data := .seq vs.toArray } (.lst (ns.map V.int))) else none) ⟨if_pos rfl, fun b => ?_⟩ (.inl (.inr ⟨{ cls := .type "list", data := .seq vs.toArray }, (if_neg naT).trans (if_pos rfl)⟩)) (fun b u z => ?_) (fun b z => ?_) fun _ => hk
  ·by_cases hb : b = T
   ·exact .inr (.inr hb)
   ·by_cases hb2 : b = a
    ·exact .inr (.inl ⟨_, _, (if_neg hb).trans (if_pos hb2)⟩)
    ·exact .inl ((if_neg hb).trans (if_neg hb2))
  ·by_cases hb : b = T
   ·have z' := (if_pos hb).symm.trans z
    cases z'
    subst hb
    exact hT
   ·by_cases hb2 : b = a
    ·have z' := ((if_neg hb).trans (if_pos hb2)).symm.trans z
     cases z'
     subst hb2
     exact ⟨ha, by rw [z6]; exact hl, vs, _, rv, ha⟩
    ·have z' := ((if_neg hb).trans (if_neg hb2)).symm.trans z
     cases z'
  ·by_cases hb : b = T
   ·exact .inr hb
   ·by_cases hb2 : b = a
    ·exact .inl hb2
    ·exact absurd ((if_neg hb).trans (if_neg hb2)) z
theorem Fun.okL {P : Program} {w : World} {K : W.Frag} {mg : Str → Option Value} {base : Heap} {x qual : Str} {st : Stmt} {f c T : Addr} {fd : FuncData} {N ps : List Str} {k : Nat} {sp : Sp} (F : Fun K x qual st f fd) (L : Nu K mg fd.code c T) (S : AL N ps (AF st)) (len : ∀ vs H Q E, sp vs H Q E → vs.length = ps.length)
  (hbody : ∀ (cdv : Value) (A : Around) (outer : List Env) (s : Shared) (H : Hp) (vs : List V) (Q : VK) (E : XK), Nu K mg cdv c T → BY k (A.deeper (envOfC qual (AF st) s.heap.objs.size f cdv)) → sp vs H Q E →
   ∃ t, PSs (A9 CX0 P w K mg base N qual (AF st) f cdv A outer s H E).nox (BD st) t ∧ t { nx := fun _ H' => Q .non H', rt := Q } (start N vs) H) : Aj P w K mg base CX0 (k + 1) f fd ps sp := by
 obtain ⟨oc, od, kV, doc, pm, an, cdv, ct, osl, rfl, lk, hcd⟩ := F.ex
 refine PK lk hcd S len fun A outer s H vs Q E hr hsp => ?_
 obtain ⟨t, h, q⟩ := hbody cdv A outer s H vs Q E L hr hsp
 exact ⟨t, h.nox, q⟩
noncomputable def F6 : Option Obj → Bool
 | some ⟨.none, none, .fields vs, sl⟩ => Nat.beq vs.size 0 && Nat.beq sl.size 0
 | _ => false
theorem Q9 {o : Option Obj} (h : F6 o = true) : o = some (W.tabObj #[]) := by
 unfold F6 at h
 split at h
 ·rename_i vs sl
  obtain ⟨h1, h2⟩ := zn.mp h
  have e1 : vs = #[] := Array.eq_empty_of_size_eq_zero (Nat.eq_of_beq_eq_true h1)
  have e2 : sl = #[] := Array.eq_empty_of_size_eq_zero (Nat.eq_of_beq_eq_true h2)
  rw [e1, e2]
 ·cases h
noncomputable def hdOk (vs : Array Value) (T : Addr) : Bool := match (vs[11]? : Option Value), vs.getD 18 .none, vs.getD 7 .none, vs.getD 9 .none, vs.getD 10 .none with
 | some (.ref P), .str _ _, .int _ _, .bool _, .int _ _ => Nat.beq P T
 | _, _, _, _, _ => false
noncomputable def Ql (K : W.Frag) (c T : Addr) : Bool := match K.lookup c with
 | some ⟨.type t, _, .fields vs, _⟩ => t == "code" && (hdOk vs T && !(Nat.beq c T))
 | _ => false
theorem OK {K : W.Frag} {c T : Addr} (h : Ql K c T = true) (h' : Heap) (X : K.In h') : W.CodeHd h' c T ∧ isCodeTable h' T := by
 unfold Ql at h
 split at h
 ·rename_i t dd vs sl e
  obtain ⟨h1, h2⟩ := zn.mp h
  obtain ⟨h3, h4⟩ := zn.mp h2
  obtain rfl : t = "code" := beq_iff_eq.mp h1
  unfold hdOk at h3
  split at h3
  ·rename_i P file tf flags tg inF text tt e11 e18 e7 e9 e10
   obtain rfl : P = T := Nat.eq_of_beq_eq_true h3
   refine ⟨⟨_, vs, file, tf, flags, tg, inF, text, tt, X _ _ e, rfl, rfl, e11, ?_, e18, e7, e9, e10, ?_⟩, ⟨c, _, vs, X _ _ e, rfl, rfl, e11⟩⟩
   ·rw [zS, e11]; rfl
   ·intro z
    rw [z, Nat.beq_refl] at h4
    cases h4
  ·cases h3
 ·cases h
noncomputable def Vj (K : W.Frag) : Bool := match W.nsIn K mainGlobals "__builtins__" with
 | some (some (.ref bm)) => !(Nat.beq bm builtinsNs) && (!(Nat.beq bm mainGlobals) && (match K.lookup bm with
  | some ⟨.type t, some d, .plain, _⟩ => t == "module" && Nat.beq d builtinsNs
  | _ => false))
 | _ => false
theorem R3 {K : W.Frag} {h : Heap} {mg : Str → Option Value} (X : K.In h) (G : h.Ns mainGlobals mg) (e : Vj K = true) (h' : Heap) (X' : K.In h') :
  ∃ bm o, mg "__builtins__" = some (.ref bm) ∧ bm ≠ builtinsNs ∧ bm ≠ mainGlobals ∧ h'.get? bm = some o ∧ o.cls = .type "module" ∧ o.dict = some builtinsNs ∧ o.data = .plain := by
 unfold Vj at e
 split at e
 ·rename_i bm eb
  obtain ⟨h1, h2⟩ := zn.mp e
  obtain ⟨h3, h4⟩ := zn.mp h2
  split at h4
  ·rename_i t d sl el
   obtain ⟨h5, h6⟩ := zn.mp h4
   obtain rfl : t = "module" := beq_iff_eq.mp h5
   obtain rfl : d = builtinsNs := Nat.eq_of_beq_eq_true h6
   refine ⟨bm, _, W.mg_of X G eb, ?_, ?_, X' _ _ el, rfl, rfl, rfl⟩
   ·intro z; rw [z, Nat.beq_refl] at h1; cases h1
   ·intro z; rw [z, Nat.beq_refl] at h3; cases h3
  ·cases h4
 ·cases e
noncomputable def Vo (K : W.Frag) (x : Str) (T : Addr) : Bool := match W.nsIn K mainGlobals x with
 | some (some (.ref f)) => match K.lookup f with
  | some ⟨_, _, .func fd, _⟩ => match fd.code with
   | .ref c => Ql K c T && Vj K
   | _ => false
  | _ => false
 | _ => false
theorem R9 {K : W.Frag} {h : Heap} {mg : Str → Option Value} {x : Str} {st : Stmt} {T f : Addr} {fd : FuncData} {ps : List Str} (X : K.In h) (G : h.Ns mainGlobals mg) (D : L2.D K mg x st ps f fd) (e : Vo K x T = true) : ∃ c, Nu K mg fd.code c T ∧ ∀ h', K.In h' → isCodeTable h' T := by
 unfold Vo at e
 split at e
 ·rename_i f' ef
  have e1 := W.mg_of X G ef
  rw [D.m] at e1; cases e1
  obtain ⟨oc, od, kV, doc, pm, an, cdv, ct, osl, rfl, lk, hcd⟩ := D.F.ex
  rw [lk] at e
  dsimp only at e
  cases cdv with
  | ref c =>
   obtain ⟨h1, h2⟩ := zn.mp e
   exact ⟨c, ⟨rfl, fun h' X' => (OK h1 h' X').1, fun h' X' => R3 X G h2 h' X'⟩, fun h' X' => (OK h1 h' X').2⟩
  | _ => cases e
 ·cases e
theorem Rc {as : List Addr} {h : Heap} {T : Addr} (n : T ∉ as) : (TG.Kof as h).lookup T = none := by
 induction as with
 | nil => rfl
 | cons b r ih =>
  simp only [TG.Kof, zo]
  have nb : T ≠ b := fun z => n (by rw [z]; exact zQ)
  cases hb : h.get? b with
  | none => exact ih fun z => n (zC _ z)
  | some ob =>
   simp only [Option.map_some, List.lookup, beq_eq_false_iff_ne.mpr nb]
   exact ih fun z => n (zC _ z)
noncomputable def Il {β : Type} (T : Addr) (as : List Addr) (obs : W.Frag → β) (v : β) (_ : World) (h : Heap) : Prop := ∃ K : W.Frag, K.In h ∧ K.lookup T = none ∧ h.get? T = some (W.tabObj #[]) ∧ obs K = v
theorem Il.of {β : Type} {T : Addr} {as : List Addr} {obs : W.Frag → β} {v : β} (n : T ∉ as) (w : World) (s : Shared) (e : (F6 (s.heap.get? T), obs (TG.Kof as s.heap)) = (true, v)) : Il T as obs v w s.heap :=
 ⟨_, TG.VL _ _, Rc n, Q9 (ze e).1, (ze e).2⟩
theorem Il.keeps {β : Type} {T : Addr} {as : List Addr} {obs : W.Frag → β} {v : β} (w : World) (h h' : Heap) (x : Il T as obs v w h) (k : ∀ b o, h.get? b = some o → h'.get? b = some o) : Il T as obs v w h' := x.imp fun _ z => ⟨z.1.keeps k, z.2.1, k _ _ z.2.2.1, z.2.2.2⟩
theorem RG {β : Type} {T : Addr} {as : List Addr} {obs : W.Frag → β} (s : SharedT) : (F6 (s.abs.heap.get? T), obs (TG.Kof as s.abs.heap)) = (F6 (TG.OV s.tree s.n T), obs (TG.Pj as s)) := by
 rw [TG.Sg]
 show (F6 ((absHeap s.tree s.n s.life).get? T), _) = _
 rw [TG.PV]
theorem Q8 {l : W.OpenLaw} {n k : Nat} {q : Program} {loose : List Str} {XP : (Str → Option Value) → Heap → Prop} {β : Type} {T : Addr} {as : List Addr} {obs : W.Frag → β} {v : β} {d : DefRec} {CX : CXT} {sp : W.Frag → Sp} {x : Str}
  (hn : l.most = some n) (hn2 : n ≤ sizeLine) (hdf : d.params.defaults = []) (hr : BY k callerA)
  (F : ∀ (w : World) (mg : Str → Option Value) (fa : Addr) (h : Heap) (K : W.Frag), obs K = v → K.In h → h.Ns mainGlobals mg → mg d.name = some (.ref fa) →
   ∃ fd : FuncData, (∀ (s : Shared) (u : Value), BindsTo s fd ⟨[u], []⟩ [(x, u)]) ∧ (∀ h', K.In h' → isCodeTable h' T) ∧
    ∀ base : Heap, K.In base → base.Ns mainGlobals mg → Aj l.prog w K mg base CX k fa fd [x] (sp K))
  (hsp : ∀ (K : W.Frag) (H : Hp) (a : Addr) (ns : List Int), ns.length ≤ n → Q2 T H → SqL K H a (ns.map V.int) → sp K [.ref a] H (fun v _ => v = .bl true) fun _ _ _ => False)
  (hCX : ∀ (H : Hp) (s : Shared) (e : Value) (s' : Shared), CX [] H s (fun _ _ _ => False) e s' → False) :
  W.WalkO q loose XP (Il T as obs v) l.row.toRowW d [] (fun f vs => PySem.call f vs) := by
 refine Att.attach_call hn hdf fun w s₀ s₁ mg mb fa o pm cd doc a vs ns G Y ho hd hcd hmg hobj hints hlen hg => ?_
 obtain ⟨K, KX, KT, hT, KO⟩ := Y
 obtain ⟨fd, hb, isT, hF⟩ := F w mg fa _ K KO KX G.T.g hmg
 exact Pl KX hT (isT _ KX) KT G.T.g G.T.b G.T.builtins G.T.nolimit hg hobj hints (zL hlen hn2) hr hF hb (fun H hO hS => hsp K H a ns hlen hO hS) fun H e s' => hCX H s₁ e s'
end LM
namespace TG
open PySem L2
theorem Paired.at {α β : Type} {F : α → β → Prop} : ∀ {l : List α} {r : List β} {i : Nat} {x : α}, Paired F l r → l[i]? = some x → ∃ y, r[i]? = some y ∧ F x y
 | _, _, i, x, .nil, h => by simp at h
 | _, _, 0, x, .cons h1 _, h => by simp at h; subst h; exact ⟨_, rfl, h1⟩
 | _, _, i + 1, x, .cons _ t, h => by
  obtain ⟨y, h2, h3⟩ := Paired.at (i := i) (x := x) t (by simpa using h)
  exact ⟨y, by simpa using h2, h3⟩
theorem Pk {β : Type} {K : W.Frag} {a : Addr} {as : List Addr} {bs : List β} {te : TE} {caps : St} {D : Addr} {H1 : Hp} {Q : Hp → Prop} (E : Hp → Addr → β → Prop) (es : ∀ H H' v b, AI H H' → E H v b → E H' v b)
  (F : Hp → V → Addr → β → Prop) (fs : ∀ H H' v q b, AI H H' → F H v q b → F H' v q b) (fd : ∀ H v q b xs ys, H D = some (.lst xs) → H1 D = none → F H v q b → F (L2.upd H D (.lst ys)) v q b)
  (hl : SqL K H1 a (as.map V.ref)) (pr0 : Paired (E H1) as bs) (hD : H1 D = none) (hz : as.length ≤ 1000)
  (he : ∀ q b H (R : VK), b ∈ bs → AI H1 H → (H D ≠ none) → E H q b → (∀ y H', AI H H' → F H' y q b → R y H') → te (some (.ref q) :: caps) H R)
  (hd : ∀ H ys, AI H1 H → H D = some (.lst ys) → ys.length = as.length → (∀ (i : Nat) (y : V), ys[i]? = some y → ∃ q b, as[i]? = some q ∧ bs[i]? = some b ∧ F H y q b) → Q H) : F0 te F4 caps (Itl K a) D H1 Q := by
 refine Mv (xs := as.map V.ref) (fun i ys H => AI H1 H ∧ H D = some (.lst ys) ∧ ∀ (j : Nat) (y : V), ys[j]? = some y → ∃ q b, as[j]? = some q ∧ bs[j]? = some b ∧ F H y q b) ⟨A0 hD, AQ, fun j y z => by simp at z⟩ (fun _ _ H _ ⟨s1, _⟩ => s1.seq hl) ?_ ?_
 ·rintro i x ys H hx hy ⟨s1, e1, pr⟩
  have hi : i < as.length := by
   have := (z8.mp hx).1
   rwa [z6] at this
  have hq := z0 hi
  obtain ⟨b, hb, eb⟩ := Paired.at pr0 hq
  have ex : x = V.ref as[i] := by
   rw [zG, hq] at hx
   exact (zI hx).symm
  subst ex
  refine he as[i] b H _ (zT hb) s1 (by rw [e1]; simp) (es _ _ _ _ s1 eb) fun y H' s2 fy => ?_
  refine K8.of (by rw [z6, PySem.sizeLine_eq]; lia) (by rw [z6]; exact hi) hy (s2.get e1) ⟨(s1.trans s2).updFresh hD, AQ, fun j z hz' => ?_⟩
  by_cases hj : j < ys.length
  ·rw [List.getElem?_append_left hj] at hz'
   obtain ⟨q, b', h1, h2, h3⟩ := pr j z hz'
   exact ⟨q, b', h1, h2, fd _ _ _ _ _ _ (s2.get e1) hD (fs _ _ _ _ _ s2 h3)⟩
  ·have hj2 : j = ys.length := by
    have := (z8.mp hz').1
    rw [zW] at this
    simp at this
    lia
   subst hj2
   rw [List.getElem?_append_right (zB _), Nat.sub_self] at hz'
   cases hz'
   rw [hy]
   exact ⟨_, b, hq, hb, fd _ _ _ _ _ _ (s2.get e1) hD fy⟩
 ·rintro ys H hy ⟨s1, e1, pr⟩
  exact hd H ys s1 e1 (by rw [hy, z6]) pr
theorem Nm {H H' : Hp} {P : Addr} {pos : Pos} {qual : Str} (h : LM.Tbl H P pos qual) (s : AI H H') : LM.Tbl H' P pos qual := by
 rcases h with h | ⟨c, o, u, vs, t, h1, h2, h3⟩
 ·exact .inl (s.get h)
 ·exact .inr ⟨c, o, u, vs, t, s.get h1, s.get h2, h3⟩
noncomputable def S8 (T : Addr) (H H' : Hp) : Prop := ∀ b u, b ≠ T → H b = some u → H' b = some u
end TG
namespace L2
open PySem PySem.Spec PyProof.Rows
section
variable {X : Cx}
end
end L2
namespace TG
open PySem L2
section
variable {T : Addr} {H H' : Hp} {pos : Pos} {qual : Str}
end
end TG
namespace L2
open PySem PySem.Spec PyProof.Rows
section
variable {X : Cx} {CX : CXT} {k n : Nat} {f C : Addr} {fd : FuncData} {ps N : List Str} {sp : Sp} {E : XK} {x : Str} {p pos apos : Pos} {e : Expr} {es : List Expr} {t : TA} {st : Stmt} {a b : Expr} {ta tb te : TE} {r : R2}
theorem pcl (d : D X.K X.mg x st ps f fd) (F : Aj X.prog X.w X.K X.mg X.base CX k f fd ps sp) (hr : BY n X.A) (hx : Cp CX X E) (ha : PA X (e :: es) t) (hk : k ≤ n := by decide) (hg : Gl X x := by rfl) (hdb : (x == ("__debug__" : Str)) = false := by decide)
  (he : starEach (e :: es) X.env = (false, eval e X.env) :: starEach es X.env := by rfl) (hpl : (backTo pos (starEach es X.env)).any (·.1) = false := by rfl) : PE X (.Call (.Name x p) (e :: es) [] pos) (Dg sp [] E t) := SO F (hr.mono hk) hg d.m d.F.kp d.b .nil hx ha hdb he hpl
theorem pst (i : Nat) {sc : Scope} {pos' : Pos} (S : AL X.N ps sc) (he : PE X e te) (hi : X.N[i]? = some x := by rfl) (hx : Loc X.env.scope x := by first | exact Or.inl rfl | exact Or.inr rfl) (hs : swapsWith e (some (.Name x pos')) pos.line X.env = pure false := by rfl)
  (hf : X.fn x = true ∨ X.env.scope.names.lookup x = some .local := by first | exact .inl rfl | exact .inr rfl | assumption) : PS X (.Assign [.Name x pos'] e pos) (MD te (Cw i)) := Uj S.nd hi hx he hs hf
theorem pgn (i : Nat) {sc : Scope} (S : AL X.N ps sc) (hi : X.N[i]? = some x := by rfl) (hx : Loc X.env.scope x := by first | exact Or.inl rfl | exact Or.inr rfl) (hf : X.fn x = true ∨ X.env.scope.names.lookup x = some .local := by first | exact .inl rfl | exact .inr rfl | assumption) : PG X (.Name x pos) (Cw i) := NX S.nd hi hx hf
theorem pxi (hr : IxR X r) (ha : PE X a ta) (hb : PE X b tb) (hs : Pe b := by exact fun _ _ => rfl) : PE X (.Subscript a b pos) (tOp r ta tb) := pe_ix hr ha hb hs
theorem pec {op : CmpOp} (ho : OpR X (compareOp op) r) (ha : PE X a ta) (hb : PE X b tb) (hm : behindInMarks op b = false := by exact RC _) : PE X (.Compare a [op] [b] pos) (tOp r ta tb) := NR ho ha hb hm
theorem ptc {op : CmpOp} (ho : OpR X (compareOp op) r) (ha : PE X a ta) (hb : PE X b tb) (hm : behindInMarks op b = false := by exact RC _) : PT X (.Compare a [op] [b] pos) (Fl (tOp r ta tb)) := SZ ho ha hb hm
end
section
variable {X : Cx}
theorem MH : B2 X (.type "int") (fun xs H Q => ∃ x n, xs = [.str x] ∧ PySem.intText? x = some n ∧ x.length ≤ 640 ∧ Q (.int n) H) := by
 intro pins s σ H xs us Q I r h
 obtain ⟨x, n, rfl, hn, hl, q⟩ := h
 obtain ⟨u, rfl, t, rfl⟩ := vals1 r
 exact W.KIN.call_text hn hl ⟨.int n, H, I.tok _, ⟨_, rfl⟩, q⟩
noncomputable def NU : V → List V → Hp → VK → Prop := fun x vs H Q => ∃ a b, x = .str a ∧ vs = [.str b] ∧ Q (.bl (decide (0 + b.length ≤ a.length) && Builtin.Str.subAt a b 0)) H
theorem Me : MtR X "str.startswith" NU := by
 intro pins s σ H x vs v us Q I rx rv h
 obtain ⟨a, b, rfl, rfl, q⟩ := h
 obtain ⟨t, rfl⟩ := rx
 obtain ⟨u, rfl, t', rfl⟩ := vals1 rv
 refine call_meets F.slot_str_startswith (typeIs_str _ _ _) F.entry_str_startswith (F.args_str_startswith_2 _ _) (gives_str_startswith a b t t').meets ?_
 exact ⟨.bl _, H, I, rfl, q⟩
noncomputable def VS : V → Option Int → Option Int → Hp → VK → Prop := fun x lo hi H Q => ∃ a, x = .str a ∧ a.length ≤ sizeLine ∧ Q (.str (Txt.slice a lo hi)) H
theorem TZ : SlR X VS := by
 intro pins s σ H x v vl vu lo hi sl Q I rx hs pl pu h
 obtain ⟨a, rfl, hz, q⟩ := h
 obtain ⟨t, rfl⟩ := rx
 have part : ∀ {v : Value} {o : Option Int}, IsPart v o → ∃ z : Option (Int × Tok), v = partValue z ∧ z.map (·.1) = o := fun h => by
  cases h with
  | none => exact ⟨none, rfl, rfl⟩
  | int i t => exact ⟨some (i, t), rfl, rfl⟩
 obtain ⟨zl, rfl, el⟩ := part pl
 obtain ⟨zu, rfl, eu⟩ := part pu
 subst el eu
 refine ⟨"str", _, F.slot_str_getitem.lookup, typeIs_str _ _ _, wpAny_getItem_str_slice (l := zl) (u := zu) (st := none) hs rfl (post_val_or_str ⟨zL (Txt.slice_le a _ _) hz, fun t' k => ?_⟩)⟩
 exact ⟨.str _, H, I.tok _, ⟨_, rfl⟩, q⟩
end
noncomputable def sg1 (x : Str) (i : Nat) : V := .str ⟨#[x.cps.getD i 0]⟩
noncomputable def Its (x : Str) : It := ⟨fun i _ => i < x.cps.size, fun i H v H' => H' = H ∧ v = sg1 x i, fun i _ => x.cps.size ≤ i⟩
theorem RZ {P : Program} {w : World} {K : W.Frag} {tg : Expr} (x : Str) (it : Addr) : Nv P w K tg (Its x) [it] it (fun i h => ∃ t, h.IsStrIter it "str_ascii_iterator" x t i) where
 mem := by simp
 obj := fun i h ⟨t, o, e, c, d⟩ b hb => by
  have z : b = it := by simpa using hb
  rw [z]
  exact ⟨o, e, fun v y => by rw [d] at y; cases y⟩
 keep := fun i h h' ⟨t, o, e, c, d⟩ k => ⟨t, o, k it (by simp) o e, c, d⟩
 item := by
  intro X hP hw hK hc i pins s σ H E I hf st hg
  subst hP hw hK
  obtain ⟨t, st⟩ := st
  have hg : i < x.cps.size := hg
  obtain ⟨f0, f1, f2, f3, f4, f5⟩ := hf it (by simp)
  have hx : x.cps[i]? = some (x.cps.getD i 0) := by rw [zS, zt hg]; rfl
  refine wpAny_pyNext_ascii_item st hx fun h2 st2 sb => ?_
  have I1 : Inv X pins σ H { s with heap := h2, toks := s.toks + 1 } := I.turned (fun b o hb e => (sb.2 b hb).trans e) f0 f1 f3 f4 f5
  obtain ⟨o, e, c, d⟩ := id st2
  exact ⟨_, rfl, O8 (s := { s with heap := h2, toks := s.toks + 1 }) e c d (by decide) ⟨sg1 x i, H, I1, ⟨_, rfl⟩, ⟨rfl, rfl⟩, ⟨t, st2⟩, fun b hb => (hf b hb).1⟩⟩
 done := by
  intro X hP hw hK hc i pins s σ H E I hf st hg
  subst hP hw hK
  obtain ⟨t, st⟩ := st
  have hg : x.cps.size ≤ i := hg
  obtain ⟨f0, f1, f2, f3, f4, f5⟩ := hf it (by simp)
  exact wpAny_pyNext_ascii_end (I.ok.hd hc) st (Array.getElem?_eq_none hg) fun h2 eb => ⟨rfl, I.turned (t' := s.toks) (fun b o hb e => eb b o hb e) f0 f1 f3 f4 f5⟩
 self := fun _ _ _ _ _ ⟨t, st⟩ h => wpAny_pyIter_striter_ascii st h
section
variable {X : Cx} {tg : Expr}
noncomputable def iStr (tl : TE) : TI := fun σ H R => tl σ H fun v H1 => ∃ x, v = .str x ∧ x.cps.all (· < 128) = true ∧ R (Its x) H1
theorem Vd {l : Expr} {tl : TE} (hl : PE X l tl) : PI X tg l (iStr tl) := by
 intro pins s σ H R I h
 refine thn (hl pins s σ H _ I h) fun v s1 zq => ?_
 obtain ⟨y, H1, I1, r1, q1⟩ := zq
 obtain ⟨x, e, asc, q⟩ := q1
 subst e
 obtain ⟨t, rfl⟩ := r1
 refine wpAny_pyIter_ascii asc ?_
 refine ⟨s1.heap.objs.size, [s1.heap.objs.size], _, _, H1, rfl, I1.kept (t' := s1.toks) fun b o e => z7 _ e, RZ x _, ⟨t, _, zM _ rfl, rfl, rfl⟩, fun b hb => ?_, q⟩
 have e : b = s1.heap.objs.size := by simpa using hb
 rw [e]
 exact I1.fpOk (zB _) (I1.hok.fresh (zB _))
end
theorem Ri {te : TE} {caps : St} {x : Str} {D : Addr} {H1 : Hp} {Q : Hp → Prop} (Pv : Nat → List V → Hp → Prop) (h0 : Pv 0 [] (upd H1 D (.lst [])))
  (hs : ∀ i ys H, i < x.cps.size → ys.length = i → Pv i ys H → te (some (sg1 x i) :: caps) H (K8 x.cps.size i ys D Pv))
  (hd : ∀ ys H, ys.length = x.cps.size → Pv x.cps.size ys H → Q H) : F0 te F4 caps (Its x) D H1 Q := by
 refine ⟨fun i m ys H => m = x.cps.size - i ∧ i ≤ x.cps.size ∧ ys.length = i ∧ Pv i ys H, ⟨_, rfl, zc _, rfl, h0⟩, ?_⟩
 rintro i m ys H ⟨rfl, hi, hl, p⟩
 by_cases hlt : i < x.cps.size
 ·refine .inr ⟨hlt, fun v H' y => ?_⟩
  obtain ⟨e1, e2⟩ := y
  subst e1 e2
  unfold F4
  dsimp only
  rw [if_pos rfl]
  exact hs i ys _ hlt hl p
 ·have e : i = x.cps.size := by lia
  subst e
  exact .inl ⟨zB _, hd ys H hl p⟩
noncomputable abbrev tx (l : List Nat) : Str := ⟨l.toArray⟩
theorem E8 (l : List Nat) : (tx l).length = l.length := zJ ..
theorem M7 {a b : List Nat} : tx a = tx b ↔ a = b := ⟨fun h => by injection h with h; injection h, fun h => by rw [h]⟩
theorem TC (x : Str) : x = tx x.cps.toList := by cases x; rfl
theorem Pf (x : Str) {a b : Nat} (h : a ≤ b) (hb : b ≤ x.length) : Txt.slice x (some (a : Int)) (some (b : Int)) = tx ((x.cps.toList.drop a).take (b - a)) := StrLaws.sliceText_nat x h hb
theorem sl_ix {lo : Option Int} {n i : Nat} : Builtin.Str.strSliceIndices lo none 1 n = Builtin.Str.strSliceIndices lo (some (n : Int)) 1 n := by
 unfold Builtin.Str.strSliceIndices
 dsimp only
 simp only [if_pos (show (1 : Int) > 0 by decide)]
 rw [if_neg (by lia), show max (0 : Int) (min (n : Int) n) = n by lia]
theorem VO {hi : Option Int} {n j : Nat} : Builtin.Str.strSliceIndices (some (j : Int)) hi 1 n = Builtin.Str.strSliceIndices (some ((min j n : Nat) : Int)) hi 1 n := by
 unfold Builtin.Str.strSliceIndices
 dsimp only
 simp only [if_pos (show (1 : Int) > 0 by decide)]
 rw [if_neg (show ¬ (j : Int) < 0 by lia), if_neg (show ¬ ((min j n : Nat) : Int) < 0 by lia), show max (0 : Int) (min ((min j n : Nat) : Int) n) = max (0 : Int) (min (j : Int) n) by lia]
theorem Og (l : List Nat) (i : Nat) : Txt.slice (tx l) (some (i : Int)) none = tx (l.drop i) := by
 have h : Txt.slice (tx l) (some (i : Int)) none = Txt.slice (tx l) (some ((min i (tx l).length : Nat) : Int)) (some (((tx l).length : Nat) : Int)) := by
  unfold Txt.slice
  rw [sl_ix (i := 0), VO]
 rw [h, Pf _ (Nat.min_le_right ..) (zB _), E8]
 refine M7.mpr ?_
 show List.take (l.length - min i l.length) (List.drop (min i l.length) l) = _
 by_cases hi : i ≤ l.length
 ·rw [Nat.min_eq_left hi, List.take_of_length_le (by rw [zh]; lia)]
 ·rw [Nat.min_eq_right (by lia), List.drop_eq_nil_of_le (zB _), List.drop_eq_nil_of_le (by lia), List.take_nil]
noncomputable def OF (l : List Nat) : Bool := l.head? == some 45
noncomputable def bare (l : List Nat) : List Nat := if OF l then l.drop 1 else l
noncomputable def rdN (l : List Nat) : Option Int :=
 if l = [48] then some 0
 else if 1 ≤ (bare l).length ∧ (bare l).length ≤ 9 ∧ (∀ c ∈ bare l, 48 ≤ c ∧ c ≤ 57) ∧ (bare l).head? ≠ some 48 then some (if OF l then -(NumText.digitsVal (bare l) : Int) else NumText.digitsVal (bare l))
 else none
theorem LG (l : List Nat) (c : Nat) : (decide (0 + (tx [c]).length ≤ (tx l).length) && Builtin.Str.subAt (tx l) (tx [c]) 0) = (l.head? == some c) := by
 cases l with
 | nil => rfl
 | cons a r =>
  have h : Builtin.Str.subAt (tx (a :: r)) (tx [c]) 0 = (a == c) := by
   unfold Builtin.Str.subAt
   have e : ((tx (a :: r)).cps.extract 0 (0 + (tx [c]).length)) = #[a] := by
    apply Array.toList_inj.mp
    rw [Array.toList_extract]
    rfl
   rw [e]
   by_cases z : a = c
   ·subst z; simp
   ·rw [show (a == c) = false by simpa using z]
    simpa using z
  rw [h, z5 (by rw [E8, E8]; simp), Bool.true_and]
  show (a == c) = (some a == some c)
  simp
theorem Tu (l : List Nat) (c : Nat) : (!(Builtin.Str.occurrences (tx l) (tx [c]) 0 (tx l).length 1).isEmpty) = decide (c ∈ l) := StrLaws.found_one (tx l) c
noncomputable def Bu (c : Nat) : List Nat → List (List Nat)
 | [] => [[]]
 | a :: r => if a = c then [] :: Bu c r else match Bu c r with
  | [] => [[a]]
  | p :: ps => (a :: p) :: ps
noncomputable def Jw (s : List Nat) : List (List Nat) → List Nat
 | [] => []
 | [y] => y
 | y :: z :: ys => y ++ (s ++ Jw s (z :: ys))
theorem Kw {s y : List Nat} {ys : List (List Nat)} (h : ys ≠ []) : Jw s (y :: ys) = y ++ (s ++ Jw s ys) := by
 cases ys with
 | nil => exact absurd rfl h
 | cons z r => rfl
theorem O4 (c : Nat) (l : List Nat) : Bu c l ≠ [] := by
 cases l with
 | nil => simp [Bu]
 | cons a r =>
  unfold Bu
  split
  ·simp
  ·split <;> simp
theorem MM {c : Nat} : ∀ {l : List Nat}, c ∉ l → Bu c l = [l]
 | [], _ => rfl
 | a :: r, h => by
  have ha : a ≠ c := fun z => h (by rw [z]; exact zQ)
  have hr := MM (l := r) fun z => h (zC _ z)
  unfold Bu
  rw [if_neg ha, hr]
theorem Nq {c : Nat} : ∀ {p l : List Nat}, c ∉ p → Bu c (p ++ c :: l) = p :: Bu c l
 | [], l, _ => by
  rw [List.nil_append]
  conv => lhs; unfold Bu
  rw [if_pos rfl]
 | a :: r, l, h => by
  have ha : a ≠ c := fun z => h (by rw [z]; exact zQ)
  have hr := Nq (p := r) (l := l) fun z => h (zC _ z)
  rw [List.cons_append]
  conv => lhs; unfold Bu
  rw [if_neg ha, hr]
theorem OL {c : Nat} : ∀ {ps : List (List Nat)}, ps ≠ [] → (∀ p ∈ ps, c ∉ p) → Bu c (Jw [c] ps) = ps
 | [], h, _ => absurd rfl h
 | [p], _, f => MM (f p (by simp))
 | p :: q :: ps, _, f => by
  rw [Kw (by simp), List.singleton_append, Nq (f p (by simp)), OL (by simp) fun x hx => f x (zC _ hx)]
theorem K9 (s : List Nat) : ∀ (ys : List Str) (a : Array Nat), (ys.foldl (fun acc p => acc ++ (tx s).cps ++ p.cps) a).toList = a.toList ++ (ys.map fun y => s ++ y.cps.toList).flatten
 | [], a => by simp
 | y :: ys, a => by
  rw [List.foldl_cons, K9 s ys]
  simp
theorem SH (s : List Nat) (ys : List (List Nat)) : Txt.join (tx s) (ys.map tx) = tx (Jw s ys) := by
 have aux : ∀ (y : List Nat) (ys : List (List Nat)), y ++ ((ys.map tx).map fun y => s ++ y.cps.toList).flatten = Jw s (y :: ys) := by
  intro y ys
  induction ys generalizing y with
  | nil => simp [Jw]
  | cons z ys ih =>
   rw [Kw (by simp), ← ih z]
   simp
 cases ys with
 | nil => rfl
 | cons y ys =>
  show (⟨List.foldl (fun acc p => acc ++ (tx s).cps ++ p.cps) (tx y).cps (ys.map tx)⟩ : Str) = _
  refine (TC _).trans (M7.mpr ?_)
  show (List.foldl (fun acc p => acc ++ (tx s).cps ++ p.cps) (tx y).cps (ys.map tx)).toList = _
  rw [K9]
  exact aux y ys
theorem Rf (c : Nat) (l : List Nat) : Txt.split (tx l) (tx [c]) = (Bu c l).map tx := by
 have h1 := StrLaws.join_split (tx l) (tx [c])
 have h2 := fun p => StrLaws.split_free (tx l) c p
 have hne : Txt.split (tx l) (tx [c]) ≠ [] := by
  unfold Txt.split
  split
  ·simp
  ·split
   ·simp
   ·intro z
    have := PyProof.Rows.len_partsBetween (tx l) (Builtin.Str.occurrences (tx l) (tx [c]) 0 (tx l).length ((tx l).length + 1)) (tx [c]).length
    rw [z] at this
    simp at this
 generalize Txt.split (tx l) (tx [c]) = ps at *
 have e : ps = (ps.map fun p => p.cps.toList).map tx := by
  rw [zw]
  conv => lhs; rw [← List.map_id ps]
  refine List.map_congr_left fun p _ => ?_
  exact TC p
 have h3 : Jw [c] (ps.map fun p => p.cps.toList) = l := by
  have := h1
  rw [e] at this
  rw [show Str.join (tx [c]) ((ps.map fun p => p.cps.toList).map tx) = Txt.join (tx [c]) ((ps.map fun p => p.cps.toList).map tx) from (StrLaws.glued_eq_join ..).symm, SH] at this
  exact M7.mp this
 rw [e, ← h3, OL]
 ·simpa using hne
 ·intro p hp
  obtain ⟨x, hx, rfl⟩ := zX.mp hp
  exact h2 x hx
section
variable {X : Cx}
noncomputable abbrev tvs (ys : List (List Nat)) : List V := ys.map fun y => V.str (tx y)
theorem Mn : ∀ (k : Nat) (ys : List (List Nat)), Ae (tvs ys) (strsFrom k (ys.map tx))
 | _, [] => .nil
 | k, y :: ys => .cons ⟨k, rfl⟩ (Mn (k + 1) ys)
noncomputable def Qz : V → List V → Hp → VK → Prop := fun x vs H Q => ∃ l c, x = .str (tx l) ∧ vs = [.str (tx [c])] ∧ l.length < sizeLine ∧ ∀ p H', H p = none → AI H H' → H' p = some (.lst (tvs (Bu c l))) → Q (.ref p) H'
theorem LH (c : Nat) : ∀ l : List Nat, (Bu c l).length ≤ l.length + 1
 | [] => by simp [Bu]
 | a :: r => by
  have := LH c r
  unfold Bu
  split
  ·simp only [zU]; lia
  ·split
   ·simp
   ·rename_i p ps e
    rw [e] at this
    simp only [zU] at *
    lia
theorem Q5 : MtR X "str.split" Qz := by
 intro pins s σ H x vs v us Q I rx rv h
 obtain ⟨l, c, rfl, rfl, hz, q⟩ := h
 obtain ⟨t, rfl⟩ := rx
 obtain ⟨u, rfl, t', rfl⟩ := vals1 rv
 have hf : H s.heap.objs.size = none := I.hok.fresh (zB _)
 have hcl := LH c l
 have sp := Rf c l
 by_cases h1 : (decide ((tx l).length < (tx [c]).length) || decide (Builtin.Str.strKind (tx l) < Builtin.Str.strKind (tx [c]))) = true
 ·refine call_meets F.slot_str_split (typeIs_str _ _ _) F.entry_str_split (F.args_str_split_2 _ _) (meets_str_split_cannot_occur _ _ _ _ h1) ?_
  have e : [tx l] = (Bu c l).map tx := by rw [← sp]; unfold Txt.split; rw [if_pos h1]
  refine ⟨.ref s.heap.objs.size, upd H s.heap.objs.size (.lst (tvs (Bu c l))), I.laid (t' := s.toks) (fun b u e => z7 _ e) (zB _) ⟨by rw [z6]; lia, [Value.str (tx l) t], 0, ?_, zM _ rfl⟩, rfl, q _ _ hf (A0 hf) AQ⟩
  have e2 : Bu c l = [l] := by
   have := congrArg (List.map fun p : Str => p.cps.toList) e
   rw [zw, show ((fun p : Str => p.cps.toList) ∘ tx) = id from rfl, List.map_id] at this
   exact this.symm
  rw [e2]
  exact .cons ⟨t, rfl⟩ .nil
 ·have h1' := Bool.eq_false_iff.mpr h1
  by_cases h2 : (Builtin.Str.occurrences (tx l) (tx [c]) 0 (tx l).length ((tx l).length + 1)).isEmpty = true
  ·refine call_meets F.slot_str_split (typeIs_str _ _ _) F.entry_str_split (F.args_str_split_2 _ _) (meets_str_split_not_found _ _ _ _ h1' rfl h2) ?_
   have e : [tx l] = (Bu c l).map tx := by rw [← sp]; unfold Txt.split; rw [if_neg h1, if_pos h2]
   refine ⟨.ref s.heap.objs.size, upd H s.heap.objs.size (.lst (tvs (Bu c l))), I.laid (t' := s.toks) (fun b u e => z7 _ e) (zB _) ⟨by rw [z6]; lia, [Value.str (tx l) t], 0, ?_, zM _ rfl⟩, rfl, q _ _ hf (A0 hf) AQ⟩
   have e2 : Bu c l = [l] := by
    have := congrArg (List.map fun p : Str => p.cps.toList) e
    rw [zw, show ((fun p : Str => p.cps.toList) ∘ tx) = id from rfl, List.map_id] at this
    exact this.symm
   rw [e2]
   exact .cons ⟨t, rfl⟩ .nil
  ·have h2' := Bool.eq_false_iff.mpr h2
   have e : Builtin.Str.partsBetween (tx l) (Builtin.Str.occurrences (tx l) (tx [c]) 0 (tx l).length ((tx l).length + 1)) (tx [c]).length = (Bu c l).map tx := by
    rw [← sp]; unfold Txt.split; rw [if_neg h1, if_neg h2]
   refine call_meets F.slot_str_split (typeIs_str _ _ _) F.entry_str_split (F.args_str_split_2 _ _) (meets_str_split_sep _ _ _ _ h1' rfl h2' (by rw [E8]; lia) (by rw [e, z6]; lia)) ?_
   rw [e]
   exact ⟨.ref s.heap.objs.size, upd H s.heap.objs.size (.lst (tvs (Bu c l))), I.laid (fun b u e => z7 _ e) (zB _) ⟨by rw [z6]; lia, _, 0, Mn _ _, zM _ rfl⟩, rfl, q _ _ hf (A0 hf) AQ⟩
theorem o_fig : Str.ofString "0123456789" = tx [48, 49, 50, 51, 52, 53, 54, 55, 56, 57] := by rfl
end
section
variable {X : Cx} {tg : Expr}
end
noncomputable def rdF (l : List Nat) : Option (Int × Int) := match Bu 47 l with
 | [_] => (rdN l).map fun x => (x, 1)
 | [a, b] => match rdN a, rdN b with
  | some x, some y => some (x, y)
  | _, _ => none
 | _ => none
end L2
namespace TG
open PySem L2 PySem.W
noncomputable def QR (K : Frag) (l : List Addr) : Prop := ∀ (i j : Nat) (a b : Addr), l[i]? = some a → l[j]? = some b → exmOne K (.ref a) (.ref b) = some (decide (i = j))
noncomputable def Rs (K : Frag) (ns : List Str) : Bool := ns.zipIdx.all fun p => ns.zipIdx.all fun q => HX K p.1 q.1 == some (decide (p.2 = q.2))
noncomputable abbrev PN (K : Frag) : List Str → List Addr → Prop := Paired fun n C => nsIn K mainGlobals n = some (some (.ref C))
theorem Rq {K : Frag} {ns : List Str} {l : List Addr} (h : PN K ns l) (e : Rs K ns = true) : QR K l := fun i j a b ha hb => by
 obtain ⟨n, hn, na⟩ := Paired.get h ha
 obtain ⟨m, hm, nb⟩ := Paired.get h hb
 unfold Rs at e
 rw [zv] at e
 have e1 := e (n, i) (List.mem_zipIdx_iff_getElem?.mpr hn)
 rw [zv] at e1
 have e2 := e1 (m, j) (List.mem_zipIdx_iff_getElem?.mpr hm)
 exact Bm na nb (beq_iff_eq.mp e2)
end TG
namespace XO
open PySem PySem.Spec PySem.Calls PyProof.Rows PySem.W Builtin Builtin.ObjectAttr Builtin.Getset_descriptor
section
variable {prog : Program} {w : World} {A : Around} {E : Value → Shared → Prop} {s : Shared} {K : Frag} {x C : Addr}
noncomputable def Of (x C : Addr) (h : Heap) : Prop := ∃ o, h.get? x = some o ∧ o.cls = .ref C
theorem Of.ty {M : Model} {h : Heap} (I : Of x C h) : Looks M h (typeOf (.ref x)) (.ref C) := by
 obtain ⟨o, h1, h2⟩ := I
 rw [← h2]
 exact (Looks.ld h1).andThen .now
theorem find_ {M : Model} {h : Heap} (X : K.In h) {name : Str} {a g : Value} (ha : findIn K (.ref C) name = some (some a)) (hg : specialIn K a "__get__" = some (some g)) (ht : takesIn K a = some true) :
  Looks M h (find (.ref x) (.ref C) name) (.bind g a) := by
 have q := (looks_takesIn (M := M) X ht)
 have q2 : Looks M h (dataDescriptor? (some a) (some g)) (some (g, a)) := q.andThen .now
 have q3 : Looks M h (getOf (some a)) (some g) := looks_specialIn X hg
 exact (looks_findIn X ha).andThen (q3.andThen (q2.andThen (Looks.tag .now)))
theorem get_ {tp : Value} {R : Result → Shared → Prop} (X : K.In s.heap) (I : Of x C s.heap) (hm : mroIn K C (.type "object") = some true) (z : R (.ok (.ret (.ref C))) s) :
  codeAny (model prog w) A (.call (.builtin "getset_descriptor.__get__") ⟨[.builtin "object.__class__", .ref x, tp], []⟩) R s := by
 obtain ⟨heap, gens, dirs, toks, os⟩ := s
 have ty := I.ty (M := model prog w)
 have mr := looks_mroIn (M := model prog w) X hm
 refine codeAny_call_builtin KF.slot_gs.plain KF.entry_gs
  (KF.slot_gs.check _ _ _ _ _ _ _ _ KF.type_class
   (KF.args_gs _ _ _) ?_)
 unfold Builtin.«getset_descriptor.__get__» descrGet
 rw [dga_obj]
 refine wpAny_bind (wpAny_pure ?_)
 unfold descrGetter descrCheckInstance
 unfold descrNameAndClass isInstance
 simp only [KF.owner_class]
 repeat lk
 refine ⟨Code.quiet_builtin _ (by decide +kernel),
  codeAny_builtin KF.entry_class ?_⟩
 unfold Builtin.«object.__class__»
 unfold shownTypeOf
 repeat lk
 exact z
theorem cls_ {Q : Option Value → Shared → Prop} (X : K.In s.heap) (I : Of x C s.heap) (hga : findIn K (.ref C) "__getattribute__" = some (some (.builtin "BaseException.__getattribute__"))) (hgn : findIn K (.ref C) "__getattr__" = some none)
  (ha : findIn K (.ref C) "__class__" = some (some (.builtin "object.__class__"))) (hn : specialIn K (.builtin "object.__class__") "__get__" = some (some (.builtin "getset_descriptor.__get__"))) (htk : takesIn K (.builtin "object.__class__") = some true)
  (hm : mroIn K C (.type "object") = some true) (hb : mroIn K C (.type "BaseException") = some true)
  (z : Q (some (.ref C)) { s with toks := s.toks + 1 }) : wpAny (model prog w) A (getAttr? (.ref x) "__class__") Q E s := by
 obtain ⟨heap, gens, dirs, toks, os⟩ := s
 have ty := I.ty (M := model prog w)
 have ga := looks_findIn (M := model prog w) X hga
 have gn := looks_findIn (M := model prog w) X hgn
 have fi := find_ (M := model prog w) (x := x) X ha hn htk
 have mb := looks_mroIn (M := model prog w) X hb
 have inner : codeAny (model prog w) A (.call (.builtin "BaseException.__getattribute__") ⟨[.ref x, .str "__class__" toks], []⟩)
   (fun r s2 => match r with | .ok (.ret u) => u = .ref C ∧ Q (some u) s2 | _ => False) ⟨heap, gens, dirs, toks + 1, os⟩ := by
  have hk : builtinKind "BaseException.__getattribute__" = some .slot := by decide +kernel
  have hsplit : splitId "BaseException.__getattribute__" = some ("BaseException", "__getattribute__") := by decide +kernel
  refine codeAny_call_builtin F.excAttr_ValueError.ga.plain F.entry_bexc_ga ?_
  simp only [checkBuiltinCall, hk, hsplit]
  refine wpAny_bind ?_
  unfold isInstance
  repeat lk
  refine wpAny_run ?_
  exact get_ (s := ⟨heap, gens, dirs, toks + 1, os⟩) X I hm (wpAny_pure (wpAny_pure ⟨rfl, z⟩))
 unfold getAttr? getAttrBy? getAttrBy
 refine wpAny_bind (wpAny_mkText ?_)
 refine wpAny_bind (wpAny_attempt (wpAny_holding ?_))
 refine wpAny_bind (ty.at (wpAny_bind (ga.at ?_)))
 show wpAny _ _ (getAttrByItsOwn _ _ _ _ _ _) _ _ _
 unfold getAttrByItsOwn hookBefore
 refine wpAny_bind (gn.at ?_)
 refine wpAny_bind (wpAny_attempt (wpAny_holding ?_))
 show wpAny _ _ (boundAndCalled _ _ _) _ _ _
 unfold boundAndCalled
 rw [F.excAttr_ValueError.ga.bind]
 refine wpAny_bind (wpAny_pure ?_)
 refine wpAny_call (codeAny_mono inner fun r s2 q => ?_)
 rcases r with e | f
 ·exact q.elim
 rcases f with _ | _ | _ | u
 ·exact q.elim
 ·exact q.elim
 ·exact q.elim
 ·obtain ⟨rfl, q⟩ := q
  show wpAny _ _ (handedOut (.ref C)) _ _ _
  refine handed_on rfl ?_
  exact wpAny_pure q
theorem kitx (hga : findIn K (.ref C) "__getattribute__" = some (some (.builtin "BaseException.__getattribute__"))) (hgn : findIn K (.ref C) "__getattr__" = some none) (hb : mroIn K C (.type "BaseException") = some true) (hdct : hasDictIn K C = true) (ha : findIn K (.ref C) "__class__" = some (some (.builtin "object.__class__")))
  (hn : specialIn K (.builtin "object.__class__") "__get__" = some (some (.builtin "getset_descriptor.__get__"))) (htk : takesIn K (.builtin "object.__class__") = some true) (hm : mroIn K C (.type "object") = some true) :
  KitX K (.ref x) (.ref C) (Of x C) := by
 obtain ⟨cd, hc, _⟩ := any_some hdct
 unfold clsIn at hc
 split at hc
 case h_2 => cases hc
 rename_i c1 c2 cd1 c4 ho
 refine ⟨fun M h X I => I.ty, fun M h X I A' Q' E' s' k q => ?_, fun h tp dd its n sl X htp => ?_, fun X I z => cls_ X I hga hgn ha hn htk hm hb z⟩
 ·unfold isType loadHead
  exact wpAny_bind (wpAny_loadPart (k _ _ (X _ _ ho)) (wpAny_pure q))
 ·refine Bool.eq_false_iff.mpr fun q => ?_
  have e := Value.ref.inj (beq_iff_eq.mp q)
  subst e
  have y := (X _ _ ho).symm.trans htp
  cases y
end
end XO
namespace L2
open PySem PySem.Spec PyProof.Rows
noncomputable def exO (ea C : Addr) : HO := .ext (XO.Of ea C)
section
variable {X : Cx} {pins : List (Addr × Obj)} {σ σ1 : St} {H H1 : Hp} {s s1 : Shared} {B : Heap} {ea C : Addr} {a0 : Value}
theorem Inv.exc (hex : X.ex = []) (I1 : Inv X pins σ1 H1 s1) (I : Inv X pins σ H s) (fl : Heap.FlyingW B X.stack ea (.ref C) a0 s.heap)
  (c1 : ∀ b o, s1.heap.get? b = some o → b ∉ frs X.stack → ∃ o', B.get? b = some o') (c2 : ∀ b, H b ≠ none → ∃ o', B.get? b = some o') :
  H ea = none ∧ Inv X pins σ (upd H ea (exO ea C)) s := by
 obtain ⟨_, hn, _, oe, vs, _, _, _, he, ⟨hcls, _⟩, hd, _⟩ := fl
 have nH : H ea = none := by
  cases q : H ea with
  | none => rfl
  | some u =>
   obtain ⟨o', e⟩ := c2 ea (by rw [q]; simp)
   rw [hn] at e; cases e
 have nl : ea ≠ X.env.locals := fun z => by
  obtain ⟨m, ⟨o', es, ep, ho', hd', _⟩, _⟩ := I.loc
  rw [← z, he] at ho'; cases ho'; rw [hd] at hd'; cases hd'
 have nf : ea ∉ X.fs := fun hb => by
  obtain ⟨_, of, hof, hnf⟩ := I.ok.funs.mem hb
  obtain ⟨sl, e⟩ := I.base.slot ea of hof (I.ok.frf ea hb) hb fun z => I.ok.exfs ea z hb
  rw [he] at e; cases e
  exact hnf vs hd
 have nk : ea ∉ frs X.stack := fun hb => by
  rcases zH.mp (I.stkSub ea hb) with z | z
  ·exact nl z
  ·exact nf z
 have nB : ∀ b o', B.get? b = some o' → b ≠ ea := fun b o' e z => by rw [z, hn] at e; cases e
 have n0 : ∀ b o, X.s₀.heap.get? b = some o → b ≠ ea := fun b o h z => by
  subst z
  obtain ⟨o1, a1⟩ := I1.base.there b o h (by rw [hex]; simp)
  obtain ⟨o2, a2⟩ := c1 b o1 a1 nk
  exact nB b o2 a2 rfl
 have nu : ∀ b u, H b = some u → b ≠ ea := fun b u e z => by rw [z, nH] at e; cases e
 refine ⟨nH, ⟨I.ok, I.os, I.bare, ⟨I.base.keep, I.base.slot, fun b o e n hx => (AJ (n0 b o e)).trans (I.base.free b o e n hx), I.base.there, fun b xs e => ?_, fun b o u e => ?_, fun b ps e => ?_⟩, I.loc, I.cell, (AJ (Ne.symm nl)).trans I.free, fun x c e => ?_, fun p hp => ?_, fun b u e => ?_, I.len⟩⟩
 ·have q := I.base.tups b xs e
  exact (AJ (nu b _ q)).trans q
 ·have q := I.base.frzs b o u e
  exact (AJ (nu b _ q)).trans q
 ·obtain ⟨more, q⟩ := I.base.tbls b ps e
  exact ⟨more, (AJ (nu b _ q)).trans q⟩
 ·refine (AJ fun z => ?_).trans (I.freeC x c e)
  obtain ⟨v, o, ho, hv⟩ := I.cell x c e
  rw [z, he] at ho; cases ho; rw [hd] at hv; cases hv
 ·obtain ⟨e, n, ne, nf', d⟩ := I.pin p hp
  refine ⟨e, (AJ ?_).trans n, ne, nf', d⟩
  obtain ⟨e1, _, _, _, _⟩ := I1.pin p hp
  obtain ⟨o', q⟩ := c1 p.1 p.2 e1 fun hm => by
   rcases zH.mp (I.stkSub _ hm) with z | z
   ·exact ne z
   ·exact nf' z
  exact nB _ _ q
 ·by_cases hb : b = ea
  ·subst hb
   rw [AQ] at e
   cases e
   exact ⟨⟨oe, he, hcls⟩, ⟨oe, he⟩, fun h1 h2 ⟨o, e, c⟩ k => ⟨o, k o e, c⟩⟩
  ·rw [AJ hb] at e
   exact (I.hok b u e).stay (fun _ _ _ q => q) (fun c q => (AJ (nu c _ q)).trans q) fun c xs q => (AJ (nu c _ q)).trans q
theorem Inv.gone {i : Nat} {n : Str} {m : Str → Option Value} {h' : Heap} {v : Option Value} {tk : Tok} (I : Inv X pins σ H s) (hN : X.N.Nodup) (hi : X.N[i]? = some n)
  (hl : ∀ (j : Nat) (y : Str) (v : V), X.N[j]? = some y → σ[j]? = some (some v) → Vis X.env.scope y → ∃ u, RelV v u ∧ Look X.env s.heap m y u)
  (hn' : h'.Ns X.env.locals (fun y => if y = n then v else m y)) (hn : s.heap.Ns X.env.locals m) (hs : Heap.SameBut X.env.locals s.heap h') : Inv X pins (σ.set i none) H { s with heap := h', toks := tk } := by
 have hiσ : i < σ.length := by rw [I.len]; exact (z8.mp hi).1
 have cne := I.cne
 have old : ∀ b o, X.s₀.heap.get? b = some o → h'.get? b = s.heap.get? b := fun b o e => hs.2 b (zP (z9 (zA e) I.ok.above))
 refine ⟨I.ok, I.os, I.bare, ⟨fun b o e n' hb hx => (old b o e).trans (I.base.keep b o e n' hb hx), fun b o e n' hb hx => ?_, I.base.free, fun b o e hx => ?_, I.base.tups, I.base.frzs, I.base.tbls⟩, ⟨_, hn', fun j y v' e1 e2 e3 => ?_⟩, fun y c e => ?_, I.free, I.freeC, fun p hp => ?_, fun b u e => ?_, by rw [List.length_set]; exact I.len⟩
 ·obtain ⟨sl, q⟩ := I.base.slot b o e n' hb hx
  exact ⟨sl, (old b o e).trans q⟩
 ·obtain ⟨o', q⟩ := I.base.there b o e hx
  exact ⟨o', (old b o e).trans q⟩
 ·have hj : j ≠ i := fun z => by
   rw [z, List.getElem?_set_self hiσ] at e2
   cases e2
  rw [List.getElem?_set_ne (Ne.symm hj)] at e2
  obtain ⟨u, r, q⟩ := hl j y v' e1 e2 e3
  refine ⟨u, r, ?_⟩
  rcases q with ⟨k, e⟩ | ⟨k, c, e, z⟩
  ·refine .inl ⟨k, ?_⟩
   have ny : y ≠ n := fun z => hj (Ky hN e1 (z ▸ hi))
   show (if y = n then v else m y) = some u
   rw [if_neg ny]; exact e
  ·exact .inr ⟨k, c, e, z.sameBut hs (cne y c e)⟩
 ·obtain ⟨w, z⟩ := I.cell y c e
  exact ⟨w, z.sameBut hs (cne y c e)⟩
 ·obtain ⟨e, n', ne, nf, d⟩ := I.pin p hp
  exact ⟨(hs.2 p.1 ne).trans e, n', ne, nf, d⟩
 ·refine (I.hok b u e).stay (fun c w hc q => (hs.2 c fun z => ?_).trans q) (fun _ q => q) fun _ _ q => q
  have fr := I.free
  rw [← z] at fr
  rcases hc with hc | hc
  ·rw [hc, e] at fr; cases fr
  ·rw [hc] at fr; cases fr
noncomputable def tAs (K : W.Frag) (c : Value) (i : Nat) (th : TS) (cls : Value) (D : Hr) (σ : St) (H : Hp) : Prop :=
 W.exmOne K cls c = some true ∧ ∃ C, cls = .ref C ∧ ∀ ea, H ea = none → th { nx := fun σ2 H2 => D.nx (σ2.set i none) H2, rt := fun _ _ => False } (σ.set i (some (.ref ea))) (upd H ea (exO ea C))
theorem P7 {D : Hr} {cls : Value} {x n : Str} {c : Value} {i : Nat} {np pos : Pos} {b₀ : Stmt} {suite : List Stmt} {th : TS} (hfr : X.env.frame = some X.env.locals) (hst : X.stack = X.env :: X.outer) (hex : X.ex = [])
  (hg : Gl X x) (hm : X.mg x = some c) (hd : (x == ("__debug__" : Str)) = false) (hN : X.N.Nodup) (hi : X.N[i]? = some n) (hx : X.env.scope.names.lookup n = some .local)
  (hb : ∀ e pn, PSs (X.caught e pn) (b₀ :: suite) th) (a : Arr X pins σ ea cls H s) (h : tAs X.K c i th cls D σ H) :
  wpAny (model X.prog X.w) X.A (handleBy (.ref ea) X.env [.ExceptHandler (some (.Name x np)) (some n) (b₀ :: suite) pos]) (SP X pins D) X.xe s := by
 obtain ⟨I, H1, s1, I1, B, a0, fl, c1, c2⟩ := a
 obtain ⟨ht, C, rfl, hq⟩ := h
 refine wpAny_handleBy_cons ?_ (by intro q; cases q)
 refine codeAny_handlers_test ?_
 have Ic := I.caught (.ref ea)
 refine E2 (X := X.caught (.ref ea) (X.pn ++ pins)) Ic hg hm ?_ hd
 obtain ⟨ob, hob, hc⟩ := fl.there
 have LT : W.Looks (model X.prog X.w) s.heap (typeOf (.ref ea)) (.ref C) := by
  rw [← hc]
  exact (W.Looks.ld hob).andThen .now
 refine (W.exm_one I.kIn LT ht).here ?_
 refine codeAny_handlers_suite_as ?_
 refine lands_againW fl fun h6 fl6 up6 => ?_
 have I6 : Inv X pins σ H { s with heap := h6 } := Inv.fly I1 I fl.1 fl6.1 up6 c1 c2
 obtain ⟨nH, I7⟩ := Inv.exc hex I1 I6 fl6 c1 c2
 refine Kd (v := .ref ea) I7 hN hi (.inl hx) rfl (fun s' I8 => ?_) (.inr hx)
 refine wpAny_mono (hb (.ref ea) (X.pn ++ pins) [] s' _ _ _ (I8.caught _) (hq ea nH)) (fun f s2 h2 => ?_) fun _ _ z => z.elim
 cases f with
 | next =>
  obtain ⟨σ2, H2, I9, q⟩ := h2
  have I10 : Inv X pins σ2 H2 s2 := I9.uncaught I.ok
  obtain ⟨m, hn, hl⟩ := I10.loc
  exact wpAny_nameGoes_keeps hx hn (by rw [I.ok.kind]; rfl) fun h' v hn' hs => ⟨σ2.set i none, H2, I10.gone hN hi hl hn' hn hs, q⟩
 | brk => obtain ⟨_, _, _, q⟩ := h2; exact q.elim
 | cont => obtain ⟨_, _, _, q⟩ := h2; exact q.elim
 | ret u => obtain ⟨_, _, _, _, _, q⟩ := h2; exact q.elim
noncomputable def RV (K : W.Frag) (tb : (Value → St → Hp → Prop) → TS) (c : Value) (i : Nat) (th : TS) : TS := fun D σ H => tb (fun cls σ' H' => tAs K c i th cls D σ' H') D σ H
theorem Re {body : List Stmt} {x n : Str} {c : Value} {i : Nat} {np hpos pos : Pos} {b₀ : Stmt} {suite : List Stmt} {th : TS} {tb : (Value → St → Hp → Prop) → TS} (hfr : X.env.frame = some X.env.locals) (hst : X.stack = X.env :: X.outer) (hex : X.ex = [])
  (hg : Gl X x) (hm : X.mg x = some c) (hd : (x == ("__debug__" : Str)) = false) (hN : X.N.Nodup) (hi : X.N[i]? = some n) (hx : X.env.scope.names.lookup n = some .local)
  (hb : ∀ N pn xe, Jx (X.trying pn xe) N → PSs (X.trying pn xe) body (tb N)) (hs : ∀ e pn, PSs (X.caught e pn) (b₀ :: suite) th) : PS X (.Try body [.ExceptHandler (some (.Name x np)) (some n) (b₀ :: suite) hpos] [] [] pos) (RV X.K tb c i th) := by
 intro pins s σ H D I h
 refine wpAny_Try_except ?_
 have pass : Jx (X.trying (X.pn ++ pins) (lookX X pins D [.ExceptHandler (some (.Name x np)) (some n) (b₀ :: suite) hpos])) (fun cls σ' H' => tAs X.K c i th cls D σ' H') := fun pins' σ' H1 s1 e s' I' hxe => by
  obtain ⟨ea, cls, H', rfl, a, hq⟩ := RW I' hxe
  obtain ⟨J, H2, s2, J2, B, a0, fl, c1, c2⟩ := a
  have J' : Inv X pins σ' H' s' := J.tried I.ok
  have J2' : Inv X pins σ' H2 s2 := J2.tried I.ok
  have fl : Heap.FlyingW B X.stack ea cls a0 s'.heap := fl
  have c1 : ∀ b o, s2.heap.get? b = some o → b ∉ frs X.stack → ∃ o', B.get? b = some o' := c1
  rw [hst] at fl
  refine wpAny_looks_onW (A := X.A) (by rw [I.ok.frames, hst]) hfr fl fun h4 held4 up4 => ?_
  refine wpAny_landsW held4 fun h5 fl5 up5 => ?_
  have I5 : Inv X pins σ' H' { s' with heap := h5 } := Inv.fly J2' J' fl.1 fl5.1 (up4.trans up5) c1 c2
  exact P7 hfr hst hex hg hm hd hN hi hx hs ⟨I5, H2, s2, J2', B, a0, by rw [hst]; exact fl5, c1, c2⟩ hq
 refine wpAny_mono (hb _ _ _ pass [] s σ H D (I.trying _) h) (fun f s1 h1 => ?_) fun e s1 h1 => h1
 have h1 : SP X pins D f s1 := SP.map (fun _ _ J => J.tried I.ok) h1
 cases f with
 | next => exact wpAny_execs_nil h1
 | brk => exact h1
 | cont => exact h1
 | ret u => exact h1
end
structure ExC (K : W.Frag) (C : Addr) : Prop where
 ga : W.findIn K (.ref C) "__getattribute__" = some (some (.builtin "BaseException.__getattribute__"))
 gn : W.findIn K (.ref C) "__getattr__" = some none
 mb : W.mroIn K C (.type "BaseException") = some true
 hd : W.hasDictIn K C = true
 fi : W.findIn K (.ref C) "__class__" = some (some (.builtin "object.__class__"))
 sp : W.specialIn K (.builtin "object.__class__") "__get__" = some (some (.builtin "getset_descriptor.__get__"))
 tk : W.takesIn K (.builtin "object.__class__") = some true
 mr : W.mroIn K C (.type "object") = some true
 kv : W.kitOne K (.ref C) (.type "ValueError") = some true
theorem Ls : bootBuiltins "ValueError" = some (.type "ValueError") := by decide +kernel
noncomputable def ExC.see (K : W.Frag) (C : Addr) : Bool :=
 decide (W.findIn K (.ref C) "__getattribute__" = some (some (.builtin "BaseException.__getattribute__"))) && decide (W.findIn K (.ref C) "__getattr__" = some none) && decide (W.mroIn K C (.type "BaseException") = some true) && W.hasDictIn K C && decide (W.findIn K (.ref C) "__class__" = some (some (.builtin "object.__class__"))) &&
 decide (W.specialIn K (.builtin "object.__class__") "__get__" = some (some (.builtin "getset_descriptor.__get__"))) &&
 decide (W.takesIn K (.builtin "object.__class__") = some true) && decide (W.mroIn K C (.type "object") = some true) && decide (W.kitOne K (.ref C) (.type "ValueError") = some true)
theorem ExC.of {K : W.Frag} {C : Addr} (h : ExC.see K C = true) : ExC K C := by
 unfold ExC.see at h
 simp only [q9, decide_eq_true_eq] at h
 obtain ⟨⟨⟨⟨⟨⟨⟨⟨h1, h2⟩, h3⟩, h4⟩, h5⟩, h6⟩, h7⟩, h8⟩, h9⟩ := h
 exact ⟨h1, h2, h3, h4, h5, h6, h7, h8, h9⟩
noncomputable def clsV : V → Value → Prop := fun c cv => (∃ n, c = .ty n ∧ cv = .type n) ∨ ∃ D, c = .ref D ∧ cv = .ref D
noncomputable def Hc (K : W.Frag) : List V → Hp → VK → Prop := fun xs H Q => ∃ (ea C : Addr) (c : V) (cv : Value) (b : Bool), xs = [.ref ea, c] ∧ H ea = some (exO ea C) ∧ ExC K C ∧ clsV c cv ∧ W.kitOne K (.ref C) cv = some b ∧ Q (.bl b) H
theorem Qy {X : Cx} : B2 X (.builtin "isinstance") (Hc X.K) := by
 intro pins s σ H xs us Q I r h
 obtain ⟨ea, C, c, cv, b, rfl, he, ex, hc, hk, q⟩ := h
 obtain ⟨u, w', rfl, r1, r2⟩ := vals2 r
 cases (show u = Value.ref ea from r1)
 have ew : w' = cv := by
  rcases hc with ⟨n, rfl, rfl⟩ | ⟨D, rfl, rfl⟩
  ·exact r2
  ·exact r2
 subst ew
 have ok : B4 X.prog X.w H s.heap ea (exO ea C) := I.hok ea _ he
 exact W.kia_one (XO.kitx ex.ga ex.gn ex.mb ex.hd ex.fi ex.sp ex.tk ex.mr) I.kIn ok.1 hk (fun z => nomatch z) fun tk => ⟨.bl b, H, I.tok tk, rfl, q⟩
theorem AY {X : Cx} {K : W.Frag} (h : X.K = K) : B2 X (.builtin "isinstance") (Hc K) := by subst h; exact Qy
theorem Ul {K : W.Frag} {t c : Value} {b : Bool} (h : W.exmOne K t c = some b) (e : t = c → b = true) : W.kitOne K t c = some b := by
 unfold W.exmOne at h
 unfold W.kitOne
 by_cases q : (t == c) = true
 ·rw [if_pos q, e (beq_iff_eq.mp q)]
 ·rw [if_neg q]
  by_cases z : (W.subIn K c (.type "BaseException") == some true) = true
  ·rw [if_pos z] at h; exact h
  ·rw [if_neg z] at h; cases h
end L2
namespace TG
open PySem L2 PySem.W
noncomputable def Qs (K : Frag) (ns : List Str) : Bool := ns.all fun n => match nsIn K mainGlobals n with
 | some (some (.ref C)) => ExC.see K C
 | _ => false
theorem Qc {K : Frag} {ns : List Str} {l : List Addr} (h : PN K ns l) (e : Qs K ns = true) : ∀ (i : Nat) (a : Addr), l[i]? = some a → ExC K a := fun i a ha => by
 obtain ⟨n, hn, na⟩ := Paired.get h ha
 unfold Qs at e
 rw [zv] at e
 have e1 := e n (zT hn)
 rw [na] at e1
 exact ExC.of e1
theorem QR.kit {K : Frag} {l : List Addr} (h : QR K l) (nd : ∀ (i j : Nat) (a : Addr), l[i]? = some a → l[j]? = some a → i = j) {i j : Nat} {a b : Addr} (ha : l[i]? = some a) (hb : l[j]? = some b) : kitOne K (.ref a) (.ref b) = some (decide (i = j)) :=
 Ul (h i j a b ha hb) fun e => by cases e; exact z5 (nd i j a ha hb)
theorem QR.nd {K : Frag} {l : List Addr} (h : QR K l) : ∀ (i j : Nat) (a : Addr), l[i]? = some a → l[j]? = some a → i = j := fun i j a ha hb => by
 have e1 := h i i a a ha ha
 have e2 := h i j a a ha hb
 rw [e1, z5 rfl] at e2
 exact z4 (zI e2).symm
end TG
namespace L2
open PySem PySem.Spec PyProof.Rows
structure LU (k : Nat) (A : Around) : Prop where
 dp : A.depth + 3 * k + 5 < recursionLimit
 un : A.units + 16 * k + 200 < cLine
theorem BY.mark {n : Nat} {A : Around} {e : Option Value} (r : BY n A) : LU n (A.mark e) := ⟨r.dp, r.un⟩
structure MK (P : Program) (w : World) (K : W.Frag) (mg : Str → Option Value) (base : Heap) (CX : CXT) (k : Nat) (f : Addr) (fd : FuncData) (ps : List Str) (sp : Sp) : Prop where
 len : ∀ vs H Q E, sp vs H Q E → vs.length = ps.length
 run : ∀ (A : Around) (outer : List Env) (s : Shared) (H : Hp) (args : Args) (us : List Value) (vs : List V) (Q : VK) (E : XK), LU k A → NG P w K mg base A outer s H → BindsTo s fd args (ps.zip us) → Ae vs us → sp vs H Q E →
  codeAny (model P w) A (.call (.ref f) args) (CR CX outer P w H s Q E) s
noncomputable def cxC (CX : CXT) (P : Program) (w : World) (K : W.Frag) (mg : Str → Option Value) (base : Heap) (N : List Str) (qual : Str) (scope : Scope) (f : Addr) (cd : Value) (A : Around) (outer : List Env) (s : Shared) (H : Hp) (E : XK) : Cx :=
 { A9 CX P w K mg base N qual scope f cd A outer s H E with calm := false }
theorem Om {CX : CXT} {P : Program} {w : World} {K : W.Frag} {mg : Str → Option Value} {base : Heap} {N ps : List Str} {qual : Str} {scope : Scope} {f : Addr} {cd : Value} {A : Around} {outer : List Env} {s s1 : Shared} {H : Hp} {E : XK} {us : List Value} {vs : List V}
  (S : AL N ps scope) (e0 : NG P w K mg base A outer s H) (hl : vs.length = ps.length) (r : Ae vs us)
  (x : InCallC s s.heap.objs.size (bindL (envOfC qual scope s.heap.objs.size f cd).kindOf (ps.zip us) fun _ => none) (cellsFrom (s.heap.objs.size + 1) scope.names []) (bindC (envOfC qual scope s.heap.objs.size f cd).kindOf (ps.zip us) fun _ => none) s1) :
  Inv (cxC CX P w K mg base N qual scope f cd A outer s H E) [] (start N vs) H s1 := by
 have I := MX (CX := CX) (E := E) (cd := cd) (f := f) (qual := qual) (A := { A with handled := none }) S rfl ⟨e0.frames, e0.mod, e0.bs, e0.bsz, e0.funs, e0.frf, e0.hok, e0.bare⟩ hl r x
 exact ⟨⟨I.ok.mod, I.ok.kind, I.ok.glob, I.ok.blt, I.ok.above, I.ok.inj, I.ok.has, I.ok.cab, (fun z => nomatch z), Around.frames_deeper e0.frames, I.ok.stk, I.ok.exf, I.ok.bs, I.ok.bsz, I.ok.noex, I.ok.exfs, I.ok.funs, I.ok.frf⟩, I.os, I.bare, I.base, I.loc, I.cell, I.free, I.freeC, I.pin, I.hok, I.len⟩
theorem Tf {CX : CXT} {P : Program} {w : World} {K : W.Frag} {mg : Str → Option Value} {base : Heap} {k : Nat} {f : Addr} {name qual : Str} {params : Arguments} {body : List Stmt} {scope : Scope} {dV kV doc pm cdv ct oc : Value} {an od : Option Addr}
  {osl : Array (Option Value)} {N ps : List Str} {sp : Sp} (lk : K.lookup f = some ⟨oc, od, .func (W.fnOf name qual params body scope dV kV doc pm an cdv ct), osl⟩) (hcd : W.codeIn K cdv qual = true) (S : AL N ps scope)
  (len : ∀ vs H Q E, sp vs H Q E → vs.length = ps.length)
  (hbody : ∀ (A : Around) (outer : List Env) (s : Shared) (H : Hp) (vs : List V) (Q : VK) (E : XK), LU k (A.deeper (envOfC qual scope s.heap.objs.size f cdv)) → sp vs H Q E →
   ∃ t, PSs (cxC CX P w K mg base N qual scope f cdv A outer s H E) body t ∧ t { nx := fun _ H' => Q .non H', rt := Q } (start N vs) H) :
  MK P w K mg base CX (k + 1) f (W.fnOf name qual params body scope dV kV doc pm an cdv ct) ps sp := by
 refine ⟨len, fun A outer s H args us vs Q E hr e0 hb r hsp => ?_⟩
 have hl := len _ _ _ _ hsp
 have KX : K.In s.heap := e0.mod.kin.keeps fun b o e => (e0.bs b o e).1
 have lim : s.heap.NoLimit := e0.mod.nolimit.keeps fun b o e => (e0.bs b o e).1
 have hkind : ∀ y ∈ ps.zip us, scope.names.lookup y.1 = some .local ∨ (scope.names.lookup y.1 = some .cell ∧ ((cellsFrom (s.heap.objs.size + 1) scope.names []).lookup y.1).isSome = true) := fun ⟨n, v⟩ hy => by
  rcases S.par n (List.of_mem_zip hy).1 with q | q
  ·exact .inl q
  ·exact .inr ⟨q, W.cellsFrom_some _ _ _ (.inl q)⟩
 refine codeAny_call_function (by have := hr.dp; lia) (KX _ _ lk) rfl S.co S.gen rfl (W.codeRec_of KX hcd) (hb _ _ _ _ ?_)
 refine wpAny_newFunctionEnv_cells S.kind hkind fun env he s1 x => ?_
 subst he
 refine ⟨lim.keeps x.toInCall.keep, codeAny_func ?_⟩
 obtain ⟨t, ht, hq⟩ := hbody A outer s H vs Q E ⟨by have := hr.dp; show A.depth + 1 + 3 * k + 5 < _; lia, by have := hr.un; show A.units + 3 + 16 * k + 200 < _; lia⟩ hsp
 have I : Inv (cxC CX P w K mg base N qual scope f cdv A outer s H E) [] (start N vs) H s1 := Om S e0 hl r x
 refine wpAny_mono (ht [] s1 (start N vs) H _ I hq) (fun fl s' hs => ?_) fun e s' hs => hs
 have fin : ∀ {σ' : St} {H' : Hp} {v : V} {u : Value}, Inv (cxC CX P w K mg base N qual scope f cdv A outer s H E) [] σ' H' s' → RelV v u → Q v H' → CE outer P w H s Q u s' :=
  fun {σ' H' v u} J rv q => ⟨v, H', J.os, J.bare, J.base, J.hok, rv, q⟩
 cases fl with
 | ret u =>
  obtain ⟨v, σ', H', J, rv, q⟩ := hs
  exact fin J rv q
 | next =>
  obtain ⟨σ', H', J, q⟩ := hs
  exact fin (v := V.non) (u := Value.none) J rfl q
 | brk =>
  obtain ⟨_, _, _, q⟩ := hs
  exact False.elim q
 | cont =>
  obtain ⟨_, _, _, q⟩ := hs
  exact False.elim q
theorem Fun.okC {P : Program} {w : World} {K : W.Frag} {mg : Str → Option Value} {base : Heap} {x qual : Str} {st : Stmt} {f : Addr} {fd : FuncData} {N ps : List Str} {k : Nat} {sp : Sp} (F : Fun K x qual st f fd) (S : AL N ps (AF st)) (len : ∀ vs H Q E, sp vs H Q E → vs.length = ps.length)
  (hbody : ∀ (cdv : Value) (A : Around) (outer : List Env) (s : Shared) (H : Hp) (vs : List V) (Q : VK) (E : XK), LU k (A.deeper (envOfC qual (AF st) s.heap.objs.size f cdv)) → sp vs H Q E →
   ∃ t, PSs (cxC CX0 P w K mg base N qual (AF st) f cdv A outer s H E).nox (BD st) t ∧ t { nx := fun _ H' => Q .non H', rt := Q } (start N vs) H) : MK P w K mg base CX0 (k + 1) f fd ps sp := by
 obtain ⟨oc, od, kV, doc, pm, an, cdv, ct, osl, rfl, lk, hcd⟩ := F.ex
 refine Tf lk hcd S len fun A outer s H vs Q E hr hsp => ?_
 obtain ⟨t, h, q⟩ := hbody cdv A outer s H vs Q E hr hsp
 exact ⟨t, h.nox, q⟩
section
variable {X : Cx} {CX : CXT} {k n : Nat} {f : Addr} {fd : FuncData} {ps : List Str} {sp : Sp} {dvs : List V} {ds : List Value} {E : XK} {x : Str} {p pos : Pos} {e : Expr} {es : List Expr} {t : TA} {st : Stmt}
theorem R6 {pins : List (Addr × Obj)} {σ : St} {H : Hp} {s : Shared} {Q : VK} {us : List Value} {vs : List V} (F : MK X.prog X.w X.K X.mg X.base CX k f fd ps sp) (hr : LU k X.A) (hb : Binds X.K fd ps ds) (hd : Ae dvs ds) (hx : Cp CX X E)
  (I : Inv X pins σ H s) (r : Ae vs us) (h : sp (vs ++ dvs) H Q E) : wpAny (model X.prog X.w) X.A (call (.ref f) us) (EP X pins σ Q) X.xe s := by
 have r2 : Ae (vs ++ dvs) (us ++ ds) := r.append hd
 have hl : (us ++ ds).length = ps.length := by rw [← r2.length]; exact F.len _ _ _ _ h
 refine wpAny_call (codeAny_mono (F.run X.A X.stack s H ⟨us, []⟩ (us ++ ds) (vs ++ dvs) Q E hr I.env0 (hb s us I.kIn hl) r2 h) fun r s' hq => ?_)
 cases r with
 | error e => exact hx pins σ H s e s' I hq
 | ok fl =>
  cases fl with
  | ret u => exact I.after hq
  | next => exact False.elim hq
  | brk => exact False.elim hq
  | cont => exact False.elim hq
theorem pclC (d : D X.K X.mg x st ps f fd) (F : MK X.prog X.w X.K X.mg X.base CX k f fd ps sp) (hr : LU n X.A) (hx : Cp CX X E) (ha : PA X (e :: es) t) (hk : k ≤ n := by decide) (hg : Gl X x := by rfl) (hdb : (x == ("__debug__" : Str)) = false := by decide)
  (he : starEach (e :: es) X.env = (false, eval e X.env) :: starEach es X.env := by rfl) (hpl : (backTo pos (starEach es X.env)).any (·.1) = false := by rfl) : PE X (.Call (.Name x p) (e :: es) [] pos) (Dg sp [] E t) := by
 have hr2 : LU k X.A := ⟨by have := hr.dp; lia, by have := hr.un; lia⟩
 intro pins s σ H Q I h
 refine wpAny_Call_Name_kw (E2 I hg d.m ?_ hdb)
 refine W.callWith_K (h₀ := X.base) I.ok.mod.kin d.F.kp (thn (ha pos pins s σ H _ I h) fun us s1 ⟨vs, H1, I1, r, q⟩ => ⟨I1.kIn, ?_⟩) he hpl
 exact R6 F hr2 d.b .nil hx I1 r q
end
end L2
namespace TG
open PySem L2
end TG
namespace L2
open PySem
open PySem.Spec PyProof.Rows
section
variable {X : Cx}
end
section
variable {X : Cx}
end
end L2
namespace TG
open PySem L2
instance : Nonempty Thr := ⟨⟨0, 0, 0, 0⟩⟩
end TG
namespace L2
open PySem PySem.Spec PyProof.Rows
section
variable {X : Cx} {x : Str} {R : Addr} {fs : List (Str × Str)} {e : Expr} {ty : TE} {p apos cpos : Pos}
end
section
variable {X : Cx} {CX : CXT} {k : Nat} {E : XK} {x : Str} {p pos : Pos} {e : Expr} {es : List Expr} {tv : TE} {t : TA} {tab : List (Addr × Sp)}
end
end L2
namespace TG
open PySem PySem.W PySem.Calls L2
end TG
namespace L2
open PySem PySem.Spec PyProof.Rows
end L2
namespace TG
open PySem L2
section
variable {C : Addr} {H H' : Hp} {n : Nat} {b S P : Nat → Addr} {ow : Nat → List Addr} {gs : Nat → List G} {past : Nat → List (List G)}
end
end TG
namespace L2
open PySem PySem.Spec PyProof.Rows
section
variable {X : Cx} {o e : Expr} {es : List Expr} {to : TE} {t : TA} {name : Str} {apos cpos : Pos} {T id : String} {r : V → List V → Hp → VK → Prop}
end
end L2
namespace TG
open PySem L2
section
variable {C : Addr} {H H' : Hp} {n : Nat} {b S P : Nat → Addr} {ow : Nat → List Addr} {gs : Nat → List G} {past : Nat → List (List G)}
variable {L0 : List (Addr × HO)} {Kl : Nat → Addr} {as : Nat → List Addr} {ks : Nat → List G}
end
end TG
namespace L2
open PySem PySem.Spec PyProof.Rows
end L2
namespace LM
open PySem L2
end LM
namespace L2
open PySem PySem.Spec PyProof.Rows
section
variable {prog : Program} {w : World} {A : Around} {E : Value → Shared → Prop} {s : Shared}
end
noncomputable def Itz (K : W.Frag) (p q : Addr) : It :=
 ⟨fun i H => ∃ xs ys x y, SqT K H p xs ∧ SqT K H q ys ∧ xs[i]? = some x ∧ ys[i]? = some y, fun i H x H' => ∃ c u v, x = .ref c ∧ H c = none ∧ H' = upd H c (.tup [u, v]) ∧ (∀ xs, SqT K H p xs → xs[i]? = some u) ∧ ∀ ys, SqT K H q ys → ys[i]? = some v, fun i H => ∃ xs ys, SqT K H p xs ∧ SqT K H q ys ∧ xs.length ≤ i⟩
section
variable {X : Cx}
noncomputable def M3 (K : W.Frag) (ta : TA) : TI := fun σ H R => ta σ H fun vs H1 => ∃ p q, vs = [.ref p, .ref q] ∧ (∃ xs, SqT K H1 p xs) ∧ (∃ ys, SqT K H1 q ys) ∧ R (Itz K p q) H1
end
end L2
namespace TG
open PySem L2
noncomputable abbrev GT : Type := Str → Str → Str → Str → Str → Str → Str → Str → Str → Str → Str → Str → Str → Str → Str → Str → Str → Str → Str → Str → Str → Str → Str → Str → Str → Str → Str → Str → Str → Str → Str → Str → Str → Str → Str → Str → Str → Str → Str → Str → Str → Str → Str → Str → Str → Str → Str → Str → Str → Str → Str → Str → Str → Str → Str → Str → Str → Str → Str → Str → Str → Str → Str → Str → Str → Str → Str → Str → Str → Str → Str → Str → Str → Str → Str → Str → Str → Str → Str → Str → Str → Str → Str → Str → Str → Str → Str → Str → Str → Str → Str → Str → Str → Str → Str → Str → Str → Str → Str → Str → Str → Str → Str → Str → Str → Str → Str → Str → Str → Str → Str → Str → Str → Str → Str → Str → Str → Str → Str → Str → Str → Str → Str → Str → Str → Str → Str → Str → Str → Str → Str → Str → Str → Str → Str → Str → Str → Str → Str → Str → Str → Str → Str → Str → Str → Str → Str → Str → Str → Str → Str → Str → Str → Str → Str → Str → Str → Str → Str → Str → Str → Str → Str → Str → Str → Str → Str → Str → Str → Str → Str → Str → Str → Str → Str → Str → Str → Str → Str → Str → Str → Str → Str → Str → Str → Str → Str → Str → Str → Str → Str → Str → Str → Str → Str → Str → Str → Str → Str → Str → Program
noncomputable def EqA (p : Program) (G : GT) : Prop := p = G (.ofString "_law_asks") (.ofString "_law_beach") (.ofString "_law_turn") (.ofString "_law_place") (.ofString "_law_other") (.ofString "through") (.ofString "steepest") (.ofString "flattest") (.ofString "take") (.ofString "most") (.ofString "passed") (.ofString "read_number") (.ofString "5/") (.ofString "read_fraction") (.ofString "_law_full") (.ofString "_law_k") (.ofString "range") (.ofString "put") (.ofString "lift") (.ofString "_law_count") (.ofString "_law_e") (.ofString "_law_count_here") (.ofString "int") (.ofString "isinstance") (.ofString "BadList") (.ofString "BadRow") (.ofString "BadThrow") (.ofString "BeachFull") (.ofString "DeedsFull") (.ofString "NoGate") (.ofString "NothingBack") (.ofString "OutOfBounds") (.ofString "Taken") (.ofString "TooFew") (.ofString "UpsideDown") (.ofString "WrongSize") (.ofString "_law_mine") (.ofString "law") (.ofString "_law_script") (.ofString "_law_at") (.ofString "_law_foot") (.ofString "Beach") (.ofString "_law_told") (.ofString "_law_deeds") (.ofString "BeachError") (.ofString "ValueError") (.ofString "text") (.ofString "parts") (.ofString "split") (.ofString "/") (.ofString "len") (.ofString "a fraction has one stroke at most") (.ofString "__name__") (.ofString "law_throwgate_k29_classes") (.ofString "sink") (.ofString "back") (.ofString "throwgate.texts") (.ofString "FIGURES") (.ofString "0123456789") (.ofString "MOST_FIGURES") (.ofString "are_figures") (.ofString "all") (.ofString "sign") (.ofString ".0") (.ofString "fast") (.ofString "0") (.ofString "figures") (.ofString "startswith") (.ofString "-") (.ofString "this is not how a number is written") (.ofString "check_gate") (.ofString "gate") (.ofString "the foot would be above the head") (.ofString "number") (.ofString "LEAST") (.ofString "GREATEST") (.ofString "a place, foot or head would be out of bounds") (.ofString "check_places") (.ofString "places") (.ofString "the list has no place") (.ofString "MOST_GATES") (.ofString "the list has too many places") (.ofString "set") (.ofString "the list has a place twice") (.ofString "check_throw") (.ofString "throw") (.ofString "a bottom is below 1") (.ofString "GREAT_NUMBER") (.ofString "a number of the throw is too great") (.ofString "__init__") (.ofString "self") (.ofString "standing") (.ofString "past") (.ofString "has_gate") (.ofString "place") (.ofString "gate_at") (.ofString "no gate stands at this place") (.ofString "do_deed") (.ofString "instead") (.ofString "MOST_DEEDS") (.ofString "no more deeds may stand") (.ofString "others") (.ofString "append") (.ofString "sorted") (.ofString "foot") (.ofString "head") (.ofString "a gate stands at this place already") (.ofString "no more gates may stand") (.ofString "foot_by") (.ofString "head_by") (.ofString "before") (.ofString "many") (.ofString "one deed is the least that is taken back") (.ofString "fewer deeds stand") (.ofString "left") (.ofString "gates") (.ofString "list") (.ofString "deeds") (.ofString "gates_at") (.ofString "two_gates_at") (.ofString "one gate alone has no steepest and no flattest throw") (.ofString "throw_through") (.ofString "steepest_throw") (.ofString "flattest_throw") (.ofString "runs") (.ofString "_wall") (.ofString "SMALL_BEACH") (.ofString "the most are told of a small beach that is not empty") (.ofString "most_gates") (.ofString "places_passed") (.ofString "found") (.ofString "steepest_found") (.ofString "turned_over") (.ofString "bar_told") (.ofString "turned_throw") (.ofString "throwgate.small") (.ofString "tried_throws") (.ofString "ordered") (.ofString "throws") (.ofString "common_throw") (.ofString "index") (.ofString "earlier") (.ofString "enumerate") (.ofString "later") (.ofString "line_by") (.ofString "tried") (.ofString "max") (.ofString "key") (.ofString "told") (.ofString "throwgate.beach") (.ofString "pair") (.ofString "tightest_pair") (.ofString "foot_place") (.ofString "head_place") (.ofString "passes_all") (.ofString "level_throw") (.ofString "height") (.ofString "bar") (.ofString "first_three") (.ofString "passes") (.ofString "foot_to_head") (.ofString "compare") (.ofString "throwgate.lines") (.ofString "height_at") (.ofString "height_top") (.ofString "height_bottom") (.ofString "rise_top") (.ofString "rise_bottom") (.ofString "top") (.ofString "lowest") (.ofString "other") (.ofString "second") (.ofString "steps") (.ofString "gain") (.ofString "start") (.ofString "rise") (.ofString "throwgate.lists") (.ofString "throwgate.fracs") (.ofString "greatest_divisor") (.ofString "one") (.ofString "two") (.ofString "divisor") (.ofString "rest") (.ofString "next_rest") (.ofString "bottom") (.ofString "abs") (.ofString "right") (.ofString "throwgate.bars") (.ofString "side_of_line") (.ofString "end") (.ofString "barring") (.ofString "three") (.ofString "") (.ofString "count") (.ofString "first") (.ofString "middle") (.ofString "last") (.ofString "throwgate.errors") (.ofString "k") (.ofString "/claim/cut.py")
noncomputable def Gp : GT := by
 refine' (?m : _ → GT) (?h : EqA PySem.Challenge.pw_throwgate_k29_classes ?G)
 case h =>
  delta EqA PySem.Challenge.pw_throwgate_k29_classes
  iterate 200 (generalize Str.ofString _ = x)
  exact rfl
 case m => exact fun _ => ?G
theorem Gq : EqA PySem.Challenge.pw_throwgate_k29_classes Gp := by delta EqA; kernel_rfl
theorem at_0 : Str.ofString "_law_asks" = Str.mk (.mk [95, 108, 97, 119, 95, 97, 115, 107, 115]) := by kernel_rfl
theorem at_1 : Str.ofString "_law_beach" = Str.mk (.mk [95, 108, 97, 119, 95, 98, 101, 97, 99, 104]) := by kernel_rfl
theorem at_2 : Str.ofString "_law_turn" = Str.mk (.mk [95, 108, 97, 119, 95, 116, 117, 114, 110]) := by kernel_rfl
theorem at_3 : Str.ofString "_law_place" = Str.mk (.mk [95, 108, 97, 119, 95, 112, 108, 97, 99, 101]) := by kernel_rfl
theorem at_4 : Str.ofString "_law_other" = Str.mk (.mk [95, 108, 97, 119, 95, 111, 116, 104, 101, 114]) := by kernel_rfl
theorem at_5 : Str.ofString "through" = Str.mk (.mk [116, 104, 114, 111, 117, 103, 104]) := by kernel_rfl
theorem at_6 : Str.ofString "steepest" = Str.mk (.mk [115, 116, 101, 101, 112, 101, 115, 116]) := by kernel_rfl
theorem at_7 : Str.ofString "flattest" = Str.mk (.mk [102, 108, 97, 116, 116, 101, 115, 116]) := by kernel_rfl
theorem at_8 : Str.ofString "take" = Str.mk (.mk [116, 97, 107, 101]) := by kernel_rfl
theorem at_9 : Str.ofString "most" = Str.mk (.mk [109, 111, 115, 116]) := by kernel_rfl
theorem at_10 : Str.ofString "passed" = Str.mk (.mk [112, 97, 115, 115, 101, 100]) := by kernel_rfl
theorem at_11 : Str.ofString "read_number" = Str.mk (.mk [114, 101, 97, 100, 95, 110, 117, 109, 98, 101, 114]) := by kernel_rfl
theorem at_12 : Str.ofString "5/" = Str.mk (.mk [53, 47]) := by kernel_rfl
theorem at_13 : Str.ofString "read_fraction" = Str.mk (.mk [114, 101, 97, 100, 95, 102, 114, 97, 99, 116, 105, 111, 110]) := by kernel_rfl
theorem at_14 : Str.ofString "_law_full" = Str.mk (.mk [95, 108, 97, 119, 95, 102, 117, 108, 108]) := by kernel_rfl
theorem at_15 : Str.ofString "_law_k" = Str.mk (.mk [95, 108, 97, 119, 95, 107]) := by kernel_rfl
theorem at_16 : Str.ofString "range" = Str.mk (.mk [114, 97, 110, 103, 101]) := by kernel_rfl
theorem at_17 : Str.ofString "put" = Str.mk (.mk [112, 117, 116]) := by kernel_rfl
theorem at_18 : Str.ofString "lift" = Str.mk (.mk [108, 105, 102, 116]) := by kernel_rfl
theorem at_19 : Str.ofString "_law_count" = Str.mk (.mk [95, 108, 97, 119, 95, 99, 111, 117, 110, 116]) := by kernel_rfl
theorem at_20 : Str.ofString "_law_e" = Str.mk (.mk [95, 108, 97, 119, 95, 101]) := by kernel_rfl
theorem at_21 : Str.ofString "_law_count_here" = Str.mk (.mk [95, 108, 97, 119, 95, 99, 111, 117, 110, 116, 95, 104, 101, 114, 101]) := by kernel_rfl
theorem at_22 : Str.ofString "int" = Str.mk (.mk [105, 110, 116]) := by kernel_rfl
theorem at_23 : Str.ofString "isinstance" = Str.mk (.mk [105, 115, 105, 110, 115, 116, 97, 110, 99, 101]) := by kernel_rfl
theorem at_24 : Str.ofString "BadList" = Str.mk (.mk [66, 97, 100, 76, 105, 115, 116]) := by kernel_rfl
theorem at_25 : Str.ofString "BadRow" = Str.mk (.mk [66, 97, 100, 82, 111, 119]) := by kernel_rfl
theorem at_26 : Str.ofString "BadThrow" = Str.mk (.mk [66, 97, 100, 84, 104, 114, 111, 119]) := by kernel_rfl
theorem at_27 : Str.ofString "BeachFull" = Str.mk (.mk [66, 101, 97, 99, 104, 70, 117, 108, 108]) := by kernel_rfl
theorem at_28 : Str.ofString "DeedsFull" = Str.mk (.mk [68, 101, 101, 100, 115, 70, 117, 108, 108]) := by kernel_rfl
theorem at_29 : Str.ofString "NoGate" = Str.mk (.mk [78, 111, 71, 97, 116, 101]) := by kernel_rfl
theorem at_30 : Str.ofString "NothingBack" = Str.mk (.mk [78, 111, 116, 104, 105, 110, 103, 66, 97, 99, 107]) := by kernel_rfl
theorem at_31 : Str.ofString "OutOfBounds" = Str.mk (.mk [79, 117, 116, 79, 102, 66, 111, 117, 110, 100, 115]) := by kernel_rfl
theorem at_32 : Str.ofString "Taken" = Str.mk (.mk [84, 97, 107, 101, 110]) := by kernel_rfl
theorem at_33 : Str.ofString "TooFew" = Str.mk (.mk [84, 111, 111, 70, 101, 119]) := by kernel_rfl
theorem at_34 : Str.ofString "UpsideDown" = Str.mk (.mk [85, 112, 115, 105, 100, 101, 68, 111, 119, 110]) := by kernel_rfl
theorem at_35 : Str.ofString "WrongSize" = Str.mk (.mk [87, 114, 111, 110, 103, 83, 105, 122, 101]) := by kernel_rfl
theorem at_36 : Str.ofString "_law_mine" = Str.mk (.mk [95, 108, 97, 119, 95, 109, 105, 110, 101]) := by kernel_rfl
theorem at_37 : Str.ofString "law" = Str.mk (.mk [108, 97, 119]) := by kernel_rfl
theorem at_38 : Str.ofString "_law_script" = Str.mk (.mk [95, 108, 97, 119, 95, 115, 99, 114, 105, 112, 116]) := by kernel_rfl
theorem at_39 : Str.ofString "_law_at" = Str.mk (.mk [95, 108, 97, 119, 95, 97, 116]) := by kernel_rfl
theorem at_40 : Str.ofString "_law_foot" = Str.mk (.mk [95, 108, 97, 119, 95, 102, 111, 111, 116]) := by kernel_rfl
theorem at_41 : Str.ofString "Beach" = Str.mk (.mk [66, 101, 97, 99, 104]) := by kernel_rfl
theorem at_42 : Str.ofString "_law_told" = Str.mk (.mk [95, 108, 97, 119, 95, 116, 111, 108, 100]) := by kernel_rfl
theorem at_43 : Str.ofString "_law_deeds" = Str.mk (.mk [95, 108, 97, 119, 95, 100, 101, 101, 100, 115]) := by kernel_rfl
theorem at_44 : Str.ofString "BeachError" = Str.mk (.mk [66, 101, 97, 99, 104, 69, 114, 114, 111, 114]) := by kernel_rfl
theorem at_45 : Str.ofString "ValueError" = Str.mk (.mk [86, 97, 108, 117, 101, 69, 114, 114, 111, 114]) := by kernel_rfl
theorem at_46 : Str.ofString "text" = Str.mk (.mk [116, 101, 120, 116]) := by kernel_rfl
theorem at_47 : Str.ofString "parts" = Str.mk (.mk [112, 97, 114, 116, 115]) := by kernel_rfl
theorem at_48 : Str.ofString "split" = Str.mk (.mk [115, 112, 108, 105, 116]) := by kernel_rfl
theorem at_49 : Str.ofString "/" = Str.mk (.mk [47]) := by kernel_rfl
theorem at_50 : Str.ofString "len" = Str.mk (.mk [108, 101, 110]) := by kernel_rfl
theorem at_51 : Str.ofString "a fraction has one stroke at most" = Str.mk (.mk [97, 32, 102, 114, 97, 99, 116, 105, 111, 110, 32, 104, 97, 115, 32, 111, 110, 101, 32, 115, 116, 114, 111, 107, 101, 32, 97, 116, 32, 109, 111, 115, 116]) := by kernel_rfl
theorem at_52 : Str.ofString "__name__" = Str.mk (.mk [95, 95, 110, 97, 109, 101, 95, 95]) := by kernel_rfl
theorem at_53 : Str.ofString "law_throwgate_k29_classes" = Str.mk (.mk [108, 97, 119, 95, 116, 104, 114, 111, 119, 103, 97, 116, 101, 95, 107, 50, 57, 95, 99, 108, 97, 115, 115, 101, 115]) := by kernel_rfl
theorem at_54 : Str.ofString "sink" = Str.mk (.mk [115, 105, 110, 107]) := by kernel_rfl
theorem at_55 : Str.ofString "back" = Str.mk (.mk [98, 97, 99, 107]) := by kernel_rfl
theorem at_56 : Str.ofString "throwgate.texts" = Str.mk (.mk [116, 104, 114, 111, 119, 103, 97, 116, 101, 46, 116, 101, 120, 116, 115]) := by kernel_rfl
theorem at_57 : Str.ofString "FIGURES" = Str.mk (.mk [70, 73, 71, 85, 82, 69, 83]) := by kernel_rfl
theorem at_58 : Str.ofString "0123456789" = Str.mk (.mk [48, 49, 50, 51, 52, 53, 54, 55, 56, 57]) := by kernel_rfl
theorem at_59 : Str.ofString "MOST_FIGURES" = Str.mk (.mk [77, 79, 83, 84, 95, 70, 73, 71, 85, 82, 69, 83]) := by kernel_rfl
theorem at_60 : Str.ofString "are_figures" = Str.mk (.mk [97, 114, 101, 95, 102, 105, 103, 117, 114, 101, 115]) := by kernel_rfl
theorem at_61 : Str.ofString "all" = Str.mk (.mk [97, 108, 108]) := by kernel_rfl
theorem at_62 : Str.ofString "sign" = Str.mk (.mk [115, 105, 103, 110]) := by kernel_rfl
theorem at_63 : Str.ofString ".0" = Str.mk (.mk [46, 48]) := by kernel_rfl
theorem at_64 : Str.ofString "fast" = Str.mk (.mk [102, 97, 115, 116]) := by kernel_rfl
theorem at_65 : Str.ofString "0" = Str.mk (.mk [48]) := by kernel_rfl
theorem at_66 : Str.ofString "figures" = Str.mk (.mk [102, 105, 103, 117, 114, 101, 115]) := by kernel_rfl
theorem at_67 : Str.ofString "startswith" = Str.mk (.mk [115, 116, 97, 114, 116, 115, 119, 105, 116, 104]) := by kernel_rfl
theorem at_68 : Str.ofString "-" = Str.mk (.mk [45]) := by kernel_rfl
theorem at_69 : Str.ofString "this is not how a number is written" = Str.mk (.mk [116, 104, 105, 115, 32, 105, 115, 32, 110, 111, 116, 32, 104, 111, 119, 32, 97, 32, 110, 117, 109, 98, 101, 114, 32, 105, 115, 32, 119, 114, 105, 116, 116, 101, 110]) := by kernel_rfl
theorem at_70 : Str.ofString "check_gate" = Str.mk (.mk [99, 104, 101, 99, 107, 95, 103, 97, 116, 101]) := by kernel_rfl
theorem at_71 : Str.ofString "gate" = Str.mk (.mk [103, 97, 116, 101]) := by kernel_rfl
theorem at_72 : Str.ofString "the foot would be above the head" = Str.mk (.mk [116, 104, 101, 32, 102, 111, 111, 116, 32, 119, 111, 117, 108, 100, 32, 98, 101, 32, 97, 98, 111, 118, 101, 32, 116, 104, 101, 32, 104, 101, 97, 100]) := by kernel_rfl
theorem at_73 : Str.ofString "number" = Str.mk (.mk [110, 117, 109, 98, 101, 114]) := by kernel_rfl
theorem at_74 : Str.ofString "LEAST" = Str.mk (.mk [76, 69, 65, 83, 84]) := by kernel_rfl
theorem at_75 : Str.ofString "GREATEST" = Str.mk (.mk [71, 82, 69, 65, 84, 69, 83, 84]) := by kernel_rfl
theorem at_76 : Str.ofString "a place, foot or head would be out of bounds" = Str.mk (.mk [97, 32, 112, 108, 97, 99, 101, 44, 32, 102, 111, 111, 116, 32, 111, 114, 32, 104, 101, 97, 100, 32, 119, 111, 117, 108, 100, 32, 98, 101, 32, 111, 117, 116, 32, 111, 102, 32, 98, 111, 117, 110, 100, 115]) := by kernel_rfl
theorem at_77 : Str.ofString "check_places" = Str.mk (.mk [99, 104, 101, 99, 107, 95, 112, 108, 97, 99, 101, 115]) := by kernel_rfl
theorem at_78 : Str.ofString "places" = Str.mk (.mk [112, 108, 97, 99, 101, 115]) := by kernel_rfl
theorem at_79 : Str.ofString "the list has no place" = Str.mk (.mk [116, 104, 101, 32, 108, 105, 115, 116, 32, 104, 97, 115, 32, 110, 111, 32, 112, 108, 97, 99, 101]) := by kernel_rfl
theorem at_80 : Str.ofString "MOST_GATES" = Str.mk (.mk [77, 79, 83, 84, 95, 71, 65, 84, 69, 83]) := by kernel_rfl
theorem at_81 : Str.ofString "the list has too many places" = Str.mk (.mk [116, 104, 101, 32, 108, 105, 115, 116, 32, 104, 97, 115, 32, 116, 111, 111, 32, 109, 97, 110, 121, 32, 112, 108, 97, 99, 101, 115]) := by kernel_rfl
theorem at_82 : Str.ofString "set" = Str.mk (.mk [115, 101, 116]) := by kernel_rfl
theorem at_83 : Str.ofString "the list has a place twice" = Str.mk (.mk [116, 104, 101, 32, 108, 105, 115, 116, 32, 104, 97, 115, 32, 97, 32, 112, 108, 97, 99, 101, 32, 116, 119, 105, 99, 101]) := by kernel_rfl
theorem at_84 : Str.ofString "check_throw" = Str.mk (.mk [99, 104, 101, 99, 107, 95, 116, 104, 114, 111, 119]) := by kernel_rfl
theorem at_85 : Str.ofString "throw" = Str.mk (.mk [116, 104, 114, 111, 119]) := by kernel_rfl
theorem at_86 : Str.ofString "a bottom is below 1" = Str.mk (.mk [97, 32, 98, 111, 116, 116, 111, 109, 32, 105, 115, 32, 98, 101, 108, 111, 119, 32, 49]) := by kernel_rfl
theorem at_87 : Str.ofString "GREAT_NUMBER" = Str.mk (.mk [71, 82, 69, 65, 84, 95, 78, 85, 77, 66, 69, 82]) := by kernel_rfl
theorem at_88 : Str.ofString "a number of the throw is too great" = Str.mk (.mk [97, 32, 110, 117, 109, 98, 101, 114, 32, 111, 102, 32, 116, 104, 101, 32, 116, 104, 114, 111, 119, 32, 105, 115, 32, 116, 111, 111, 32, 103, 114, 101, 97, 116]) := by kernel_rfl
theorem at_89 : Str.ofString "__init__" = Str.mk (.mk [95, 95, 105, 110, 105, 116, 95, 95]) := by kernel_rfl
theorem at_90 : Str.ofString "self" = Str.mk (.mk [115, 101, 108, 102]) := by kernel_rfl
theorem at_91 : Str.ofString "standing" = Str.mk (.mk [115, 116, 97, 110, 100, 105, 110, 103]) := by kernel_rfl
theorem at_92 : Str.ofString "past" = Str.mk (.mk [112, 97, 115, 116]) := by kernel_rfl
theorem at_93 : Str.ofString "has_gate" = Str.mk (.mk [104, 97, 115, 95, 103, 97, 116, 101]) := by kernel_rfl
theorem at_94 : Str.ofString "place" = Str.mk (.mk [112, 108, 97, 99, 101]) := by kernel_rfl
theorem at_95 : Str.ofString "gate_at" = Str.mk (.mk [103, 97, 116, 101, 95, 97, 116]) := by kernel_rfl
theorem at_96 : Str.ofString "no gate stands at this place" = Str.mk (.mk [110, 111, 32, 103, 97, 116, 101, 32, 115, 116, 97, 110, 100, 115, 32, 97, 116, 32, 116, 104, 105, 115, 32, 112, 108, 97, 99, 101]) := by kernel_rfl
theorem at_97 : Str.ofString "do_deed" = Str.mk (.mk [100, 111, 95, 100, 101, 101, 100]) := by kernel_rfl
theorem at_98 : Str.ofString "instead" = Str.mk (.mk [105, 110, 115, 116, 101, 97, 100]) := by kernel_rfl
theorem at_99 : Str.ofString "MOST_DEEDS" = Str.mk (.mk [77, 79, 83, 84, 95, 68, 69, 69, 68, 83]) := by kernel_rfl
theorem VG : Str.ofString "no more deeds may stand" = Str.mk (.mk [110, 111, 32, 109, 111, 114, 101, 32, 100, 101, 101, 100, 115, 32, 109, 97, 121, 32, 115, 116, 97, 110, 100]) := by kernel_rfl
theorem UH : Str.ofString "others" = Str.mk (.mk [111, 116, 104, 101, 114, 115]) := by kernel_rfl
theorem TV : Str.ofString "append" = Str.mk (.mk [97, 112, 112, 101, 110, 100]) := by kernel_rfl
theorem VN : Str.ofString "sorted" = Str.mk (.mk [115, 111, 114, 116, 101, 100]) := by kernel_rfl
theorem Tz : Str.ofString "foot" = Str.mk (.mk [102, 111, 111, 116]) := by kernel_rfl
theorem Vb : Str.ofString "head" = Str.mk (.mk [104, 101, 97, 100]) := by kernel_rfl
theorem Uc : Str.ofString "a gate stands at this place already" = Str.mk (.mk [97, 32, 103, 97, 116, 101, 32, 115, 116, 97, 110, 100, 115, 32, 97, 116, 32, 116, 104, 105, 115, 32, 112, 108, 97, 99, 101, 32, 97, 108, 114, 101, 97, 100, 121]) := by kernel_rfl
theorem TK : Str.ofString "no more gates may stand" = Str.mk (.mk [110, 111, 32, 109, 111, 114, 101, 32, 103, 97, 116, 101, 115, 32, 109, 97, 121, 32, 115, 116, 97, 110, 100]) := by kernel_rfl
theorem Us : Str.ofString "foot_by" = Str.mk (.mk [102, 111, 111, 116, 95, 98, 121]) := by kernel_rfl
theorem Ti : Str.ofString "head_by" = Str.mk (.mk [104, 101, 97, 100, 95, 98, 121]) := by kernel_rfl
theorem VX : Str.ofString "before" = Str.mk (.mk [98, 101, 102, 111, 114, 101]) := by kernel_rfl
theorem Ve : Str.ofString "many" = Str.mk (.mk [109, 97, 110, 121]) := by kernel_rfl
theorem VQ : Str.ofString "one deed is the least that is taken back" = Str.mk (.mk [111, 110, 101, 32, 100, 101, 101, 100, 32, 105, 115, 32, 116, 104, 101, 32, 108, 101, 97, 115, 116, 32, 116, 104, 97, 116, 32, 105, 115, 32, 116, 97, 107, 101, 110, 32, 98, 97, 99, 107]) := by kernel_rfl
theorem Vl : Str.ofString "fewer deeds stand" = Str.mk (.mk [102, 101, 119, 101, 114, 32, 100, 101, 101, 100, 115, 32, 115, 116, 97, 110, 100]) := by kernel_rfl
theorem Th : Str.ofString "left" = Str.mk (.mk [108, 101, 102, 116]) := by kernel_rfl
theorem Uh : Str.ofString "gates" = Str.mk (.mk [103, 97, 116, 101, 115]) := by kernel_rfl
theorem TF : Str.ofString "list" = Str.mk (.mk [108, 105, 115, 116]) := by kernel_rfl
theorem Tk : Str.ofString "deeds" = Str.mk (.mk [100, 101, 101, 100, 115]) := by kernel_rfl
theorem UY : Str.ofString "gates_at" = Str.mk (.mk [103, 97, 116, 101, 115, 95, 97, 116]) := by kernel_rfl
theorem UD : Str.ofString "two_gates_at" = Str.mk (.mk [116, 119, 111, 95, 103, 97, 116, 101, 115, 95, 97, 116]) := by kernel_rfl
theorem VJ : Str.ofString "one gate alone has no steepest and no flattest throw" = Str.mk (.mk [111, 110, 101, 32, 103, 97, 116, 101, 32, 97, 108, 111, 110, 101, 32, 104, 97, 115, 32, 110, 111, 32, 115, 116, 101, 101, 112, 101, 115, 116, 32, 97, 110, 100, 32, 110, 111, 32, 102, 108, 97, 116, 116, 101, 115, 116, 32, 116, 104, 114, 111, 119]) := by kernel_rfl
theorem TW : Str.ofString "throw_through" = Str.mk (.mk [116, 104, 114, 111, 119, 95, 116, 104, 114, 111, 117, 103, 104]) := by kernel_rfl
theorem Vi : Str.ofString "steepest_throw" = Str.mk (.mk [115, 116, 101, 101, 112, 101, 115, 116, 95, 116, 104, 114, 111, 119]) := by kernel_rfl
theorem UE : Str.ofString "flattest_throw" = Str.mk (.mk [102, 108, 97, 116, 116, 101, 115, 116, 95, 116, 104, 114, 111, 119]) := by kernel_rfl
theorem VB : Str.ofString "runs" = Str.mk (.mk [114, 117, 110, 115]) := by kernel_rfl
theorem T2 : Str.ofString "_wall" = Str.mk (.mk [95, 119, 97, 108, 108]) := by kernel_rfl
theorem Up : Str.ofString "SMALL_BEACH" = Str.mk (.mk [83, 77, 65, 76, 76, 95, 66, 69, 65, 67, 72]) := by kernel_rfl
theorem VR : Str.ofString "the most are told of a small beach that is not empty" = Str.mk (.mk [116, 104, 101, 32, 109, 111, 115, 116, 32, 97, 114, 101, 32, 116, 111, 108, 100, 32, 111, 102, 32, 97, 32, 115, 109, 97, 108, 108, 32, 98, 101, 97, 99, 104, 32, 116, 104, 97, 116, 32, 105, 115, 32, 110, 111, 116, 32, 101, 109, 112, 116, 121]) := by kernel_rfl
theorem Vc : Str.ofString "most_gates" = Str.mk (.mk [109, 111, 115, 116, 95, 103, 97, 116, 101, 115]) := by kernel_rfl
theorem VP : Str.ofString "places_passed" = Str.mk (.mk [112, 108, 97, 99, 101, 115, 95, 112, 97, 115, 115, 101, 100]) := by kernel_rfl
theorem Uv : Str.ofString "found" = Str.mk (.mk [102, 111, 117, 110, 100]) := by kernel_rfl
theorem T0 : Str.ofString "steepest_found" = Str.mk (.mk [115, 116, 101, 101, 112, 101, 115, 116, 95, 102, 111, 117, 110, 100]) := by kernel_rfl
theorem VU : Str.ofString "turned_over" = Str.mk (.mk [116, 117, 114, 110, 101, 100, 95, 111, 118, 101, 114]) := by kernel_rfl
theorem TN : Str.ofString "bar_told" = Str.mk (.mk [98, 97, 114, 95, 116, 111, 108, 100]) := by kernel_rfl
theorem Vr : Str.ofString "turned_throw" = Str.mk (.mk [116, 117, 114, 110, 101, 100, 95, 116, 104, 114, 111, 119]) := by kernel_rfl
theorem Tv : Str.ofString "throwgate.small" = Str.mk (.mk [116, 104, 114, 111, 119, 103, 97, 116, 101, 46, 115, 109, 97, 108, 108]) := by kernel_rfl
theorem UB : Str.ofString "tried_throws" = Str.mk (.mk [116, 114, 105, 101, 100, 95, 116, 104, 114, 111, 119, 115]) := by kernel_rfl
theorem Uu : Str.ofString "ordered" = Str.mk (.mk [111, 114, 100, 101, 114, 101, 100]) := by kernel_rfl
theorem VF : Str.ofString "throws" = Str.mk (.mk [116, 104, 114, 111, 119, 115]) := by kernel_rfl
theorem TM : Str.ofString "common_throw" = Str.mk (.mk [99, 111, 109, 109, 111, 110, 95, 116, 104, 114, 111, 119]) := by kernel_rfl
theorem Ua : Str.ofString "index" = Str.mk (.mk [105, 110, 100, 101, 120]) := by kernel_rfl
theorem Vn : Str.ofString "earlier" = Str.mk (.mk [101, 97, 114, 108, 105, 101, 114]) := by kernel_rfl
theorem UA : Str.ofString "enumerate" = Str.mk (.mk [101, 110, 117, 109, 101, 114, 97, 116, 101]) := by kernel_rfl
theorem Tb : Str.ofString "later" = Str.mk (.mk [108, 97, 116, 101, 114]) := by kernel_rfl
theorem Ug : Str.ofString "line_by" = Str.mk (.mk [108, 105, 110, 101, 95, 98, 121]) := by kernel_rfl
theorem Tt : Str.ofString "tried" = Str.mk (.mk [116, 114, 105, 101, 100]) := by kernel_rfl
theorem Ux : Str.ofString "max" = Str.mk (.mk [109, 97, 120]) := by kernel_rfl
theorem Vv : Str.ofString "key" = Str.mk (.mk [107, 101, 121]) := by kernel_rfl
theorem Uk : Str.ofString "told" = Str.mk (.mk [116, 111, 108, 100]) := by kernel_rfl
theorem Tl : Str.ofString "throwgate.beach" = Str.mk (.mk [116, 104, 114, 111, 119, 103, 97, 116, 101, 46, 98, 101, 97, 99, 104]) := by kernel_rfl
theorem UR : Str.ofString "pair" = Str.mk (.mk [112, 97, 105, 114]) := by kernel_rfl
theorem UZ : Str.ofString "tightest_pair" = Str.mk (.mk [116, 105, 103, 104, 116, 101, 115, 116, 95, 112, 97, 105, 114]) := by kernel_rfl
theorem U4 : Str.ofString "foot_place" = Str.mk (.mk [102, 111, 111, 116, 95, 112, 108, 97, 99, 101]) := by kernel_rfl
theorem VM : Str.ofString "head_place" = Str.mk (.mk [104, 101, 97, 100, 95, 112, 108, 97, 99, 101]) := by kernel_rfl
theorem VE : Str.ofString "passes_all" = Str.mk (.mk [112, 97, 115, 115, 101, 115, 95, 97, 108, 108]) := by kernel_rfl
theorem Uq : Str.ofString "level_throw" = Str.mk (.mk [108, 101, 118, 101, 108, 95, 116, 104, 114, 111, 119]) := by kernel_rfl
theorem Vp : Str.ofString "height" = Str.mk (.mk [104, 101, 105, 103, 104, 116]) := by kernel_rfl
theorem Tr : Str.ofString "bar" = Str.mk (.mk [98, 97, 114]) := by kernel_rfl
theorem VZ : Str.ofString "first_three" = Str.mk (.mk [102, 105, 114, 115, 116, 95, 116, 104, 114, 101, 101]) := by kernel_rfl
theorem Ta : Str.ofString "passes" = Str.mk (.mk [112, 97, 115, 115, 101, 115]) := by kernel_rfl
theorem Tn : Str.ofString "foot_to_head" = Str.mk (.mk [102, 111, 111, 116, 95, 116, 111, 95, 104, 101, 97, 100]) := by kernel_rfl
theorem Ut : Str.ofString "compare" = Str.mk (.mk [99, 111, 109, 112, 97, 114, 101]) := by kernel_rfl
theorem U6 : Str.ofString "throwgate.lines" = Str.mk (.mk [116, 104, 114, 111, 119, 103, 97, 116, 101, 46, 108, 105, 110, 101, 115]) := by kernel_rfl
theorem Tc : Str.ofString "height_at" = Str.mk (.mk [104, 101, 105, 103, 104, 116, 95, 97, 116]) := by kernel_rfl
theorem Uw : Str.ofString "height_top" = Str.mk (.mk [104, 101, 105, 103, 104, 116, 95, 116, 111, 112]) := by kernel_rfl
theorem Vf : Str.ofString "height_bottom" = Str.mk (.mk [104, 101, 105, 103, 104, 116, 95, 98, 111, 116, 116, 111, 109]) := by kernel_rfl
theorem US : Str.ofString "rise_top" = Str.mk (.mk [114, 105, 115, 101, 95, 116, 111, 112]) := by kernel_rfl
theorem Ui : Str.ofString "rise_bottom" = Str.mk (.mk [114, 105, 115, 101, 95, 98, 111, 116, 116, 111, 109]) := by kernel_rfl
theorem VW : Str.ofString "top" = Str.mk (.mk [116, 111, 112]) := by kernel_rfl
theorem Uo : Str.ofString "lowest" = Str.mk (.mk [108, 111, 119, 101, 115, 116]) := by kernel_rfl
theorem T5 : Str.ofString "other" = Str.mk (.mk [111, 116, 104, 101, 114]) := by kernel_rfl
theorem UL : Str.ofString "second" = Str.mk (.mk [115, 101, 99, 111, 110, 100]) := by kernel_rfl
theorem T4 : Str.ofString "steps" = Str.mk (.mk [115, 116, 101, 112, 115]) := by kernel_rfl
theorem U5 : Str.ofString "gain" = Str.mk (.mk [103, 97, 105, 110]) := by kernel_rfl
theorem UK : Str.ofString "start" = Str.mk (.mk [115, 116, 97, 114, 116]) := by kernel_rfl
theorem Vq : Str.ofString "rise" = Str.mk (.mk [114, 105, 115, 101]) := by kernel_rfl
theorem VI : Str.ofString "throwgate.lists" = Str.mk (.mk [116, 104, 114, 111, 119, 103, 97, 116, 101, 46, 108, 105, 115, 116, 115]) := by kernel_rfl
theorem UN : Str.ofString "throwgate.fracs" = Str.mk (.mk [116, 104, 114, 111, 119, 103, 97, 116, 101, 46, 102, 114, 97, 99, 115]) := by kernel_rfl
theorem Vt : Str.ofString "greatest_divisor" = Str.mk (.mk [103, 114, 101, 97, 116, 101, 115, 116, 95, 100, 105, 118, 105, 115, 111, 114]) := by kernel_rfl
theorem Td : Str.ofString "one" = Str.mk (.mk [111, 110, 101]) := by kernel_rfl
theorem Um : Str.ofString "two" = Str.mk (.mk [116, 119, 111]) := by kernel_rfl
theorem Uz : Str.ofString "divisor" = Str.mk (.mk [100, 105, 118, 105, 115, 111, 114]) := by kernel_rfl
theorem Uy : Str.ofString "rest" = Str.mk (.mk [114, 101, 115, 116]) := by kernel_rfl
theorem Te : Str.ofString "next_rest" = Str.mk (.mk [110, 101, 120, 116, 95, 114, 101, 115, 116]) := by kernel_rfl
theorem TR : Str.ofString "bottom" = Str.mk (.mk [98, 111, 116, 116, 111, 109]) := by kernel_rfl
theorem Tg : Str.ofString "abs" = Str.mk (.mk [97, 98, 115]) := by kernel_rfl
theorem U0 : Str.ofString "right" = Str.mk (.mk [114, 105, 103, 104, 116]) := by kernel_rfl
theorem U8 : Str.ofString "throwgate.bars" = Str.mk (.mk [116, 104, 114, 111, 119, 103, 97, 116, 101, 46, 98, 97, 114, 115]) := by kernel_rfl
theorem T1 : Str.ofString "side_of_line" = Str.mk (.mk [115, 105, 100, 101, 95, 111, 102, 95, 108, 105, 110, 101]) := by kernel_rfl
theorem Vh : Str.ofString "end" = Str.mk (.mk [101, 110, 100]) := by kernel_rfl
theorem UP : Str.ofString "barring" = Str.mk (.mk [98, 97, 114, 114, 105, 110, 103]) := by kernel_rfl
theorem Tj : Str.ofString "three" = Str.mk (.mk [116, 104, 114, 101, 101]) := by kernel_rfl
theorem U3 : Str.ofString "" = Str.mk (.mk []) := by kernel_rfl
theorem T3 : Str.ofString "count" = Str.mk (.mk [99, 111, 117, 110, 116]) := by kernel_rfl
theorem U2 : Str.ofString "first" = Str.mk (.mk [102, 105, 114, 115, 116]) := by kernel_rfl
theorem Uf : Str.ofString "middle" = Str.mk (.mk [109, 105, 100, 100, 108, 101]) := by kernel_rfl
theorem UW : Str.ofString "last" = Str.mk (.mk [108, 97, 115, 116]) := by kernel_rfl
theorem VH : Str.ofString "throwgate.errors" = Str.mk (.mk [116, 104, 114, 111, 119, 103, 97, 116, 101, 46, 101, 114, 114, 111, 114, 115]) := by kernel_rfl
theorem TQ : Str.ofString "k" = Str.mk (.mk [107]) := by kernel_rfl
theorem Ur : Str.ofString "/claim/cut.py" = Str.mk (.mk [47, 99, 108, 97, 105, 109, 47, 99, 117, 116, 46, 112, 121]) := by kernel_rfl
noncomputable def Tw : PSigma fun t : Program => PySem.Challenge.pw_throwgate_k29_classes = t := by
 have h := Gq
 simp only [EqA, at_0, at_1, at_2, at_3, at_4, at_5, at_6, at_7, at_8, at_9, at_10, at_11, at_12, at_13, at_14, at_15, at_16, at_17, at_18, at_19, at_20, at_21, at_22, at_23, at_24, at_25, at_26, at_27, at_28, at_29, at_30, at_31, at_32, at_33, at_34, at_35, at_36, at_37, at_38, at_39, at_40, at_41, at_42, at_43, at_44, at_45, at_46, at_47, at_48, at_49, at_50, at_51, at_52, at_53, at_54, at_55, at_56, at_57, at_58, at_59, at_60, at_61, at_62, at_63, at_64, at_65, at_66, at_67, at_68, at_69, at_70, at_71, at_72, at_73, at_74, at_75, at_76, at_77, at_78, at_79, at_80, at_81, at_82, at_83, at_84, at_85, at_86, at_87, at_88, at_89, at_90, at_91, at_92, at_93, at_94, at_95, at_96, at_97, at_98, at_99, VG, UH, TV, VN, Tz, Vb, Uc, TK, Us, Ti, VX, Ve, VQ, Vl, Th, Uh, TF, Tk, UY, UD, VJ, TW, Vi, UE, VB, T2, Up, VR, Vc, VP, Uv, T0, VU, TN, Vr, Tv, UB, Uu, VF, TM, Ua, Vn, UA, Tb, Ug, Tt, Ux, Vv, Uk, Tl, UR, UZ, U4, VM, VE, Uq, Vp, Tr, VZ, Ta, Tn, Ut, U6, Tc, Uw, Vf, US, Ui, VW, Uo, T5, UL, T4, U5, UK, Vq, VI, UN, Vt, Td, Um, Uz, Uy, Te, TR, Tg, U0, U8, T1, Vh, UP, Tj, U3, T3, U2, Uf, UW, VH, TQ, Ur] at h
 exact ⟨_, h⟩
noncomputable def _root_.PySem.W.Fast.tw9689748720264074033 : PySem.Program := TG.Tw.1
theorem _root_.PySem.W.Fast.te9689748720264074033 : PySem.Challenge.pw_throwgate_k29_classes = PySem.W.Fast.tw9689748720264074033 := TG.Tw.2
set_option hygiene false
local macro_rules | `(tactic| walk_at "NX") => `(tactic| (refine hM _ _ ?_; clear hM; clear M))
local macro_rules | `(tactic| walk_at "Q") => `(tactic| (refine RO fun M hM => ?_))
local macro_rules | `(tactic| walk_at "LN") => `(tactic| (first | (obtain ⟨rfl, _⟩ := h; rfl) | (obtain ⟨_, h⟩ := h; walk_at "LN")))
local macro_rules | `(tactic| walk_at "I2") => `(tactic| (intro cdv A outer s H vs Q E hr h; have hu := Sx hr))
local macro_rules | `(tactic| walk_at "b1") => `(tactic| (obtain ⟨x0, rfl⟩ := VD hl; rfl))
local macro_rules | `(tactic| walk_at "b2") => `(tactic| (obtain ⟨x0, x1, rfl⟩ := T8 hl; rfl))
local macro_rules | `(tactic| walk_at "b3") => `(tactic| (obtain ⟨x0, x1, x2, rfl⟩ := len3 hl; rfl))
local macro_rules | `(tactic| walk_at "b4") => `(tactic| (obtain ⟨x0, x1, x2, x3, rfl⟩ := len4 hl; rfl))
local macro_rules | `(tactic| walk_at "SC") => `(tactic| (exact ⟨rfl, rfl, rfl, by decide +kernel, rfl, by decide +kernel, by decide +kernel⟩))
local macro_rules | `(tactic| walk_at "SQT0") => `(tactic| (first | with_reducible assumption | exact SqT.of (by with_reducible assumption)))
local macro_rules | `(tactic| walk_at "SQL0") => `(tactic| (first | with_reducible assumption | exact SqL.of (by with_reducible assumption)))
local macro_rules | `(tactic| walk_at "SAT0") => `(tactic| (with_reducible assumption))
local macro_rules | `(tactic| walk_at "SAME0") => `(tactic| (first | with_reducible assumption | exact AI.refl _))
local macro_rules | `(tactic| walk_at "SQT1") => `(tactic| (first | with_reducible assumption | exact SqT.of (by with_reducible assumption) | exact AI.tup (by with_reducible assumption) (by walk_at "SQT0")))
local macro_rules | `(tactic| walk_at "SQL1") => `(tactic| (first | with_reducible assumption | exact SqL.of (by with_reducible assumption) | exact AI.seq (by with_reducible assumption) (by walk_at "SQL0")))
local macro_rules | `(tactic| walk_at "SAT1") => `(tactic| (first | with_reducible assumption | exact AI.get (by with_reducible assumption) (by walk_at "SAT0")))
local macro_rules | `(tactic| walk_at "SAME1") => `(tactic| (first | with_reducible assumption | exact AI.refl _ | exact AI.trans (by with_reducible assumption) (by walk_at "SAME0")))
local macro_rules | `(tactic| walk_at "SQT2") => `(tactic| (first | with_reducible assumption | exact SqT.of (by with_reducible assumption) | exact AI.tup (by with_reducible assumption) (by walk_at "SQT1")))
local macro_rules | `(tactic| walk_at "SQL2") => `(tactic| (first | with_reducible assumption | exact SqL.of (by with_reducible assumption) | exact AI.seq (by with_reducible assumption) (by walk_at "SQL1")))
local macro_rules | `(tactic| walk_at "SAT2") => `(tactic| (first | with_reducible assumption | exact AI.get (by with_reducible assumption) (by walk_at "SAT1")))
local macro_rules | `(tactic| walk_at "SAME2") => `(tactic| (first | with_reducible assumption | exact AI.refl _ | exact AI.trans (by with_reducible assumption) (by walk_at "SAME1")))
local macro_rules | `(tactic| walk_at "SQT3") => `(tactic| (first | with_reducible assumption | exact SqT.of (by with_reducible assumption) | exact AI.tup (by with_reducible assumption) (by walk_at "SQT2")))
local macro_rules | `(tactic| walk_at "SQL3") => `(tactic| (first | with_reducible assumption | exact SqL.of (by with_reducible assumption) | exact AI.seq (by with_reducible assumption) (by walk_at "SQL2")))
local macro_rules | `(tactic| walk_at "SAT3") => `(tactic| (first | with_reducible assumption | exact AI.get (by with_reducible assumption) (by walk_at "SAT2")))
local macro_rules | `(tactic| walk_at "SAME3") => `(tactic| (first | with_reducible assumption | exact AI.refl _ | exact AI.trans (by with_reducible assumption) (by walk_at "SAME2")))
local macro_rules | `(tactic| walk_at "SQT4") => `(tactic| (first | with_reducible assumption | exact SqT.of (by with_reducible assumption) | exact AI.tup (by with_reducible assumption) (by walk_at "SQT3")))
local macro_rules | `(tactic| walk_at "SQL4") => `(tactic| (first | with_reducible assumption | exact SqL.of (by with_reducible assumption) | exact AI.seq (by with_reducible assumption) (by walk_at "SQL3")))
local macro_rules | `(tactic| walk_at "SAT4") => `(tactic| (first | with_reducible assumption | exact AI.get (by with_reducible assumption) (by walk_at "SAT3")))
local macro_rules | `(tactic| walk_at "SAME4") => `(tactic| (first | with_reducible assumption | exact AI.refl _ | exact AI.trans (by with_reducible assumption) (by walk_at "SAME3")))
local macro_rules | `(tactic| walk_at "SQT5") => `(tactic| (first | with_reducible assumption | exact SqT.of (by with_reducible assumption) | exact AI.tup (by with_reducible assumption) (by walk_at "SQT4")))
local macro_rules | `(tactic| walk_at "SQL5") => `(tactic| (first | with_reducible assumption | exact SqL.of (by with_reducible assumption) | exact AI.seq (by with_reducible assumption) (by walk_at "SQL4")))
local macro_rules | `(tactic| walk_at "SAT5") => `(tactic| (first | with_reducible assumption | exact AI.get (by with_reducible assumption) (by walk_at "SAT4")))
local macro_rules | `(tactic| walk_at "SAME5") => `(tactic| (first | with_reducible assumption | exact AI.refl _ | exact AI.trans (by with_reducible assumption) (by walk_at "SAME4")))
local macro_rules | `(tactic| walk_at "SQT6") => `(tactic| (first | with_reducible assumption | exact SqT.of (by with_reducible assumption) | exact AI.tup (by with_reducible assumption) (by walk_at "SQT5")))
local macro_rules | `(tactic| walk_at "SQL6") => `(tactic| (first | with_reducible assumption | exact SqL.of (by with_reducible assumption) | exact AI.seq (by with_reducible assumption) (by walk_at "SQL5")))
local macro_rules | `(tactic| walk_at "SAT6") => `(tactic| (first | with_reducible assumption | exact AI.get (by with_reducible assumption) (by walk_at "SAT5")))
local macro_rules | `(tactic| walk_at "SAME6") => `(tactic| (first | with_reducible assumption | exact AI.refl _ | exact AI.trans (by with_reducible assumption) (by walk_at "SAME5")))
local macro_rules | `(tactic| walk_at "RD") => `(tactic| ((try dsimp only [OH, MD, On, Mc, K3, OR, QS, MN, Lf, Cw, Mg, Jn, Hh, tOp, tUn, Gj, tC, Fl, DT, Hb, Dg, tCB, HF, Gw, rI, rI0, rU, rEq, rNe, Cz, C7, C4, Cy, C2, DB, C6, Cb, C0, Ca, C8, DC, DE, DA, Lk, MI, tOr, FX, MC, Ij, tB, tIf, Ln, Lb, Gx, C9, Cc, FA, NL, NY, IU, D9, D0, NH, C5, IR, KI, Fa, KG, NK, JB, CZ, FR, G4, Gs, Ce, F4, tSl, Li, CW, HU, Lh, G0, M3, rIn, L3, GG, Io, Ey, FB, NF, Gv, Lv, El, Iw, HD, Gz, ID, L2.start, if_true, if_false, List.map_cons, List.map_nil, List.length_cons, List.length_nil, List.cons_append, List.nil_append, List.replicate, List.set_cons_zero, List.set_cons_succ, List.getElem?_cons_zero, List.getElem?_cons_succ, Nat.reduceAdd, Nat.reduceSub, Int.reduceToNat, Int.reduceNeg, Int.reduceMul, Int.reduceAdd, Int.reduceSub]); (try simp only [OH, MD, On, Mc, K3, OR, QS, MN, Lf, Cw, Mg, Jn, Hh, tOp, tUn, Gj, tC, Fl, DT, Hb, Dg, tCB, HF, Gw, rI, rI0, rU, rEq, rNe, Cz, C7, C4, Cy, C2, DB, C6, Cb, C0, Ca, C8, DC, DE, DA, Lk, MI, tOr, FX, MC, Ij, tB, tIf, Ln, Lb, Pz, QB, QU, Gx, C9, Cc, FA, NL, NY, IU, D9, D0, NH, C5, IR, KI, Fa, KG, NK, JB, CZ, FR, G4, Gs, Ce, F4, tSl, Li, CW, HU, Lh, G0, M3, rIn, L3, GG, Io, Ey, FB, NF, Gv, Lv, El, Iw, HD, Gz, ID, L2.start, cxK, exists_and_right, and_assoc, Int.reduceLE, Int.reduceLT, Nat.reduceLT, Nat.reducePow, Int.reducePow, JW, Mp, false_and, exists_false, and_false, if_true, if_false, decide_true, decide_false, Bool.false_eq_true, Bool.not_true, Bool.not_false, List.map_cons, List.map_nil, List.length_cons, List.length_nil, List.cons_append, List.nil_append, List.append_nil, List.replicate, List.set_cons_zero, List.set_cons_succ, List.getElem?_cons_zero, List.getElem?_cons_succ, Option.some.injEq, V.int.injEq, V.bl.injEq, V.ref.injEq, V.ty.injEq, V.str.injEq, List.cons.injEq, exists_eq_left', exists_and_left, exists_eq_left, true_and, and_true, true_or, or_true, Nat.reduceAdd, Nat.reduceSub, Int.reduceToNat, Int.reduceNeg, Int.reduceMul, Int.reduceAdd, Int.reduceSub, Bool.not_eq_true, Bool.not_not, forall_const])))
local macro_rules | `(tactic| walk_at "RDE") => `(tactic| ((try dsimp only [tOp, tUn, Gj, tC, Fl, DT, Hb, Dg, tCB, HF, Gw, rI, rI0, rU, rEq, rNe, Cz, C7, C4, Cy, C2, DB, C6, Cb, C0, Ca, C8, DC, DE, DA, Lk, MI, tOr, FX, MC, Ij, tB, tIf, Ln, Lb, Gx, C9, Cc, FA, NL, NY, IU, D9, D0, NH, C5, IR, KI, Fa, KG, NK, JB, CZ, FR, G4, Gs, Ce, F4, tSl, Li, CW, HU, Lh, G0, M3, rIn, L3, GG, Io, Ey, FB, NF, Gv, Lv, El, Iw, HD, Gz, ID, L2.start, if_true, if_false, List.map_cons, List.map_nil, List.length_cons, List.length_nil, List.cons_append, List.nil_append, List.replicate, List.set_cons_zero, List.set_cons_succ, List.getElem?_cons_zero, List.getElem?_cons_succ, Nat.reduceAdd, Nat.reduceSub, Int.reduceToNat, Int.reduceNeg, Int.reduceMul, Int.reduceAdd, Int.reduceSub]); (try simp only [tOp, tUn, Gj, tC, Fl, DT, Hb, Dg, tCB, HF, Gw, rI, rI0, rU, rEq, rNe, Cz, C7, C4, Cy, C2, DB, C6, Cb, C0, Ca, C8, DC, DE, DA, Lk, MI, tOr, FX, MC, Ij, tB, tIf, Ln, Lb, Pz, QB, QU, Gx, C9, Cc, FA, NL, NY, IU, D9, D0, NH, C5, IR, KI, Fa, KG, NK, JB, CZ, FR, G4, Gs, Ce, F4, tSl, Li, CW, HU, Lh, G0, M3, rIn, L3, GG, Io, Ey, FB, NF, Gv, Lv, El, Iw, HD, Gz, ID, L2.start, cxK, exists_and_right, and_assoc, Int.reduceLE, Int.reduceLT, Nat.reduceLT, Nat.reducePow, Int.reducePow, JW, Mp, false_and, exists_false, and_false, if_true, if_false, decide_true, decide_false, Bool.false_eq_true, Bool.not_true, Bool.not_false, List.map_cons, List.map_nil, List.length_cons, List.length_nil, List.cons_append, List.nil_append, List.append_nil, List.replicate, List.set_cons_zero, List.set_cons_succ, List.getElem?_cons_zero, List.getElem?_cons_succ, Option.some.injEq, V.int.injEq, V.bl.injEq, V.ref.injEq, V.ty.injEq, V.str.injEq, List.cons.injEq, exists_eq_left', exists_and_left, exists_eq_left, true_and, and_true, true_or, or_true, Nat.reduceAdd, Nat.reduceSub, Int.reduceToNat, Int.reduceNeg, Int.reduceMul, Int.reduceAdd, Int.reduceSub, Bool.not_eq_true, Bool.not_not, forall_const])))
local macro_rules | `(tactic| walk_at "STEP") => `(tactic| ((first | (with_reducible refine ⟨_, rfl, ?_⟩) | (with_reducible apply Ix; · exact rfl) | (with_reducible apply Ix; · (walk_at "SQT6")) | (with_reducible apply Ix; · (walk_at "SQL6")) | (with_reducible apply Ix; · (walk_at "SAT6")) | (with_reducible apply Ix; · exact Rm (by omega) (by omega)) | (with_reducible apply exOrL; · (walk_at "SQL6")) | (with_reducible apply exOrR; · (walk_at "SQT6")) | (with_reducible apply Ix; · exact HY.tup (by walk_at "SAT6")) | (with_reducible apply Ix; · exact HY.lst (by walk_at "SAT6")) | (with_reducible apply Ix; · exact HY.int _) | (with_reducible apply Ix; · exact HY.str _) | (with_reducible apply And.intro; · (first | exact rfl | exact Cb | exact Ca | decide | with_reducible assumption | omega | exact ⟨_, rfl⟩ | exact ⟨_, (by walk_at "SQL6")⟩ | exact ⟨_, (by walk_at "SQT6")⟩ | exact ⟨_, (by walk_at "SAT6")⟩ | (simp only [List.length_map, List.length_append, List.length_cons, List.length_nil, PySem.sizeLine_eq]; omega) | first | with_reducible assumption | exact Sm.of (n := 10 ^ 120) (by omega) (by decide +kernel))) | (with_reducible intro p H' hn hs he; (have ck := U7 hs); clear ck) | (with_reducible apply Vm; · (first | decide | (simp; done) | (simp; omega))) | (with_reducible apply TX; · (first | decide | (simp; done) | (simp; omega))))))
local macro_rules | `(tactic| walk_at "AUTO") => `(tactic| (repeat walk_at "STEP"))
local macro_rules | `(tactic| delta $ids*) => do
  let ls ← ids.mapM fun i => `(Lean.Parser.Tactic.simpLemma| $i:ident)
  `(tactic| (try dsimp only [OH, MD, On, Mc, K3, OR, QS, MN, Lf, Cw, Mg, Jn, Hh, tOp, tUn, Gj, tC, Fl, DT, Hb, Dg, tCB, HF, Gw, rI, rI0, rU, rEq, rNe, Cz, C7, C4, Cy, C2, DB, C6, Cb, C0, Ca, C8, DC, DE, DA, Lk, MI, tOr, FX, MC, Ij, tB, tIf, Ln, Lb, Gx, C9, Cc, FA, NL, NY, IU, D9, D0, NH, C5, IR, KI, Fa, KG, NK, JB, CZ, FR, G4, Gs, Ce, F4, tSl, Li, CW, HU, Lh, G0, M3, rIn, L3, GG, Io, Ey, FB, NF, Gv, Lv, El, Iw, HD, Gz, ID, L2.start, if_true, if_false, List.map_cons, List.map_nil, List.length_cons, List.length_nil, List.cons_append, List.nil_append, List.replicate, List.set_cons_zero, List.set_cons_succ, List.getElem?_cons_zero, List.getElem?_cons_succ, Nat.reduceAdd, Nat.reduceSub, Int.reduceToNat, Int.reduceNeg, Int.reduceMul, Int.reduceAdd, Int.reduceSub, $ls,*]); (try simp only [OH, MD, On, Mc, K3, OR, QS, MN, Lf, Cw, Mg, Jn, Hh, tOp, tUn, Gj, tC, Fl, DT, Hb, Dg, tCB, HF, Gw, rI, rI0, rU, rEq, rNe, Cz, C7, C4, Cy, C2, DB, C6, Cb, C0, Ca, C8, DC, DE, DA, Lk, MI, tOr, FX, MC, Ij, tB, tIf, Ln, Lb, Pz, QB, QU, Gx, C9, Cc, FA, NL, NY, IU, D9, D0, NH, C5, IR, KI, Fa, KG, NK, JB, CZ, FR, G4, Gs, Ce, F4, tSl, Li, CW, HU, Lh, G0, M3, rIn, L3, GG, Io, Ey, FB, NF, Gv, Lv, El, Iw, HD, Gz, ID, L2.start, cxK, exists_and_right, and_assoc, Int.reduceLE, Int.reduceLT, Nat.reduceLT, Nat.reducePow, Int.reducePow, JW, Mp, false_and, exists_false, and_false, if_true, if_false, decide_true, decide_false, Bool.false_eq_true, Bool.not_true, Bool.not_false, List.map_cons, List.map_nil, List.length_cons, List.length_nil, List.cons_append, List.nil_append, List.append_nil, List.replicate, List.set_cons_zero, List.set_cons_succ, List.getElem?_cons_zero, List.getElem?_cons_succ, Option.some.injEq, V.int.injEq, V.bl.injEq, V.ref.injEq, V.ty.injEq, V.str.injEq, List.cons.injEq, exists_eq_left', exists_and_left, exists_eq_left, true_and, and_true, true_or, or_true, Nat.reduceAdd, Nat.reduceSub, Int.reduceToNat, Int.reduceNeg, Int.reduceMul, Int.reduceAdd, Int.reduceSub, Bool.not_eq_true, Bool.not_not, forall_const, $ls,*]))
noncomputable def top (i : Nat) : Stmt := PySem.Challenge.pw_throwgate_k29_classes.main.body.getD i (.Pass ⟨0, 0, 0, 0⟩)
noncomputable abbrev DH : Stmt := top 22
noncomputable abbrev Je : Stmt := top 23
noncomputable abbrev EA : Stmt := top 24
noncomputable abbrev Bz : Stmt := top 26
noncomputable abbrev K2 : Stmt := top 27
noncomputable abbrev JU : Stmt := top 28
noncomputable abbrev GA : Stmt := top 30
noncomputable abbrev Js : Stmt := top 31
noncomputable abbrev Kn : Stmt := top 32
noncomputable abbrev Ej : Stmt := top 34
noncomputable abbrev Cm : Stmt := top 35
noncomputable abbrev DV : Stmt := top 36
noncomputable abbrev Cq : Stmt := top 37
noncomputable abbrev CK : Stmt := top 38
noncomputable abbrev EB : Stmt := top 39
noncomputable abbrev DY : Stmt := top 40
noncomputable abbrev Hq : Stmt := top 41
noncomputable abbrev Ct : Stmt := top 42
noncomputable abbrev CP : Stmt := top 43
noncomputable abbrev D4 : Stmt := top 44
noncomputable abbrev DW : Stmt := top 45
noncomputable abbrev CS : Stmt := top 46
noncomputable abbrev Dc : Stmt := top 48
noncomputable abbrev E9 : Stmt := top 49
noncomputable abbrev E3 : Stmt := top 51
noncomputable abbrev DZ : Stmt := top 52
noncomputable abbrev D7 : Stmt := top 53
noncomputable abbrev E5 : Stmt := BG (top 54) 0
noncomputable abbrev CJ : Stmt := BG (top 54) 1
noncomputable abbrev Ck : Stmt := BG (top 54) 2
noncomputable abbrev Co : Stmt := BG (top 54) 3
noncomputable abbrev Fo : Stmt := BG (top 54) 4
noncomputable abbrev Ez : Stmt := BG (top 54) 5
noncomputable abbrev Er : Stmt := BG (top 54) 6
noncomputable abbrev Eu : Stmt := BG (top 54) 7
noncomputable abbrev Es : Stmt := BG (top 54) 8
noncomputable abbrev Dx : Stmt := BG (top 54) 9
noncomputable abbrev Dt : Stmt := BG (top 54) 10
noncomputable abbrev CO : Stmt := BG (top 54) 11
noncomputable abbrev Bd : Stmt := BG (top 54) 12
noncomputable abbrev Cj : Stmt := BG (top 54) 13
noncomputable abbrev CT : Stmt := BG (top 54) 14
noncomputable abbrev CU : Stmt := BG (top 54) 15
noncomputable abbrev E6 : Stmt := BG (top 54) 17
noncomputable abbrev DX : Stmt := BG (top 54) 18
noncomputable abbrev Ds : Stmt := top 58
noncomputable abbrev D5 : Stmt := top 59
noncomputable abbrev Cs : Stmt := top 60
noncomputable abbrev Op : Stmt := top 62
noncomputable abbrev Jv : Stmt := top 63
noncomputable abbrev K7 : Stmt := top 64
noncomputable abbrev Kh : Stmt := top 65
noncomputable abbrev Gc : Stmt := top 66
noncomputable abbrev II : Stmt := top 67
noncomputable abbrev O7 : Stmt := top 68
noncomputable abbrev F8 : Pos := ⟨162, 26, 162, 51⟩
noncomputable abbrev N4 : Str := (("most_gates" : Str) ++ ".<locals>.") ++ "<lambda>"
noncomputable abbrev Dd : Addr := 335
noncomputable abbrev qv : Program := { PySem.Challenge.pw_throwgate_k29_classes with main := { PySem.Challenge.pw_throwgate_k29_classes.main with body := [O7] } }
noncomputable def TJ : List Str := [Str.ofString "_wall", Str.ofString "LEAST", Str.ofString "GREATEST", Str.ofString "MOST_GATES", Str.ofString "MOST_DEEDS", Str.ofString "SMALL_BEACH", Str.ofString "GREAT_NUMBER", Str.ofString "BeachError"]
noncomputable def Tq : List Str := [Str.ofString "NoGate", Str.ofString "Taken", Str.ofString "UpsideDown", Str.ofString "OutOfBounds", Str.ofString "BeachFull", Str.ofString "DeedsFull", Str.ofString "NothingBack", Str.ofString "BadList"]
noncomputable def UG : List Str := [Str.ofString "TooFew", Str.ofString "WrongSize", Str.ofString "BadThrow", Str.ofString "BadRow", Str.ofString "side_of_line", Str.ofString "barring", Str.ofString "first_three", Str.ofString "greatest_divisor"]
noncomputable def UI : List Str := [Str.ofString "lowest", Str.ofString "compare", Str.ofString "height_at", Str.ofString "line_by", Str.ofString "passes", Str.ofString "passes_all", Str.ofString "places_passed", Str.ofString "foot_to_head"]
noncomputable def Ue : List Str := [Str.ofString "tightest_pair", Str.ofString "steepest_found", Str.ofString "level_throw", Str.ofString "common_throw", Str.ofString "bar_told", Str.ofString "throw_through", Str.ofString "steepest_throw", Str.ofString "turned_over"]
noncomputable def UM : List Str := [Str.ofString "turned_throw", Str.ofString "flattest_throw", Str.ofString "tried_throws", Str.ofString "most_gates", Str.ofString "check_gate", Str.ofString "check_places", Str.ofString "check_throw", Str.ofString "Beach"]
noncomputable def VV : List Str := [Str.ofString "FIGURES", Str.ofString "MOST_FIGURES", Str.ofString "are_figures", Str.ofString "read_number", Str.ofString "read_fraction", Str.ofString "_law_at", Str.ofString "_law_deeds", Str.ofString "_law_asks"]
noncomputable def UQ : List Str := [Str.ofString "_law_full", Str.ofString "_law_count", Str.ofString "_law_mine"]
noncomputable def JT : List Str := TJ ++ Tq ++ UG ++ UI ++ Ue ++ UM ++ VV ++ UQ
noncomputable def addrs : List Addr := [4, 2, 3, 15, 17, 18, 20, 21, 22, 29, 30, 31, 32, 35, 42, 43, 44, 47, 54, 55, 56, 59, 66, 67, 68, 71, 78, 79, 80, 83, 90, 91, 92, 95, 102, 103, 104, 107, 114, 115, 116, 119, 126, 127, 128, 131, 138, 139, 140, 143, 150, 151, 152, 155, 162, 163, 164, 167, 174, 175, 176, 179, 181, 182, 184, 185, 186, 188, 189, 191, 192, 193, 195, 196, 198, 199, 200, 202, 203, 205, 206, 207, 209, 210, 212, 213, 214, 216, 217, 219, 220, 221, 223, 224, 226, 227, 228, 230, 231, 233, 234, 235, 237, 238, 240, 241, 242, 245, 246, 247, 250, 251, 252, 254, 255, 257, 258, 259, 261, 262, 264, 265, 266, 268, 269, 271, 272, 273, 275, 276, 278, 279, 280, 282, 283, 285, 286, 287, 289, 290, 292, 293, 294, 296, 297, 299, 300, 301, 303, 304, 306, 307, 308, 310, 311, 313, 314, 315, 317, 318, 320, 321, 322, 325, 326, 327, 329, 330, 332, 333, 334, 337, 338, 339, 341, 342, 344, 345, 346, 348, 349, 351, 352, 353, 355, 356, 358, 359, 367, 369, 370, 372, 373, 374, 377, 378, 379, 381, 382, 384, 385, 386, 389, 390, 391, 393, 394, 396, 397, 398, 400, 401, 403, 404, 405, 407, 408, 410, 411, 412, 414, 415, 417, 418, 419, 420, 422, 423, 425, 426, 427, 429, 430, 432, 433, 434, 436, 437, 439, 440, 441, 444, 445, 446, 448, 449, 451, 452, 453, 455, 456, 458, 459, 460, 462, 463, 465, 466, 467, 469, 470, 472, 473, 474, 476, 477, 479, 480, 481, 483, 484, 486, 487, 488, 490, 491, 493, 494, 495, 496, 497, 498, 499, 502, 505, 506, 507, 509, 510, 512, 513, 514, 516, 517, 519, 520, 521, 523, 524, 526, 527, 528, 530, 531, 533, 534, 535, 537, 538, 540, 541, 542, 544, 545, 547, 548, 549, 551, 552, 554, 555, 556, 558, 559, 561, 562, 563, 565, 566, 568, 569]
noncomputable def obs0 (K : W.Frag) : List (Bool) := [TU K "Beach" ["standing", "past"], Hn K "BeachError", Hn K "NoGate", Hn K "Taken", Hn K "UpsideDown", Hn K "OutOfBounds", Hn K "BeachFull", Hn K "DeedsFull"]
noncomputable def val0 : List (Bool) := [true, true, true, true, true, true, true, true]
noncomputable def obs1 (K : W.Frag) : List (Bool) := [Hn K "NothingBack", Hn K "BadList", Hn K "TooFew", Hn K "WrongSize", Hn K "BadThrow", Hn K "BadRow", Rs K ["NoGate", "Taken", "UpsideDown", "OutOfBounds", "BeachFull", "DeedsFull", "NothingBack", "BadList", "TooFew", "WrongSize", "BadThrow", "BadRow"], Qs K ["NoGate", "Taken", "UpsideDown", "OutOfBounds", "BeachFull", "DeedsFull", "NothingBack", "BadList", "TooFew", "WrongSize", "BadThrow", "BadRow"]]
noncomputable def val1 : List (Bool) := [true, true, true, true, true, true, true, true]
noncomputable def obs2 (K : W.Frag) : List (Bool) := [LM.Vo K "most_gates" Dd, IN K "ValueError", IN K "abs", IN K "all", IN K "enumerate", IN K "int", IN K "isinstance", IN K "len"]
noncomputable def val2 : List (Bool) := [true, true, true, true, true, true, true, true]
noncomputable def obs3 (K : W.Frag) : List (Bool) := [IN K "list", IN K "max", IN K "range", IN K "set", IN K "sorted"]
noncomputable def val3 : List (Bool) := [true, true, true, true, true]
noncomputable def obs4 (K : W.Frag) : List (Option Bool) := [HX K "NoGate" "BeachError", HX K "Taken" "BeachError", HX K "UpsideDown" "BeachError", HX K "OutOfBounds" "BeachError", HX K "BeachFull" "BeachError", HX K "DeedsFull" "BeachError", HX K "NothingBack" "BeachError", HX K "BadList" "BeachError"]
noncomputable def val4 : List (Option Bool) := [some true, some true, some true, some true, some true, some true, some true, some true]
noncomputable def obs5 (K : W.Frag) : List (Option Bool) := [HX K "TooFew" "BeachError", HX K "WrongSize" "BeachError", HX K "BadThrow" "BeachError", HX K "BadRow" "BeachError"]
noncomputable def val5 : List (Option Bool) := [some true, some true, some true, some true]
noncomputable def obs6 (K : W.Frag) : List (Seen) := [BS K "side_of_line", BS K "barring", BS K "first_three", BS K "greatest_divisor", BS K "lowest", BS K "compare", BS K "height_at", BS K "line_by"]
noncomputable def val6 : List (Seen) := [Ao "side_of_line" "side_of_line" DH [], Ao "barring" "barring" Je [], Ao "first_three" "first_three" EA [], Ao "greatest_divisor" "greatest_divisor" Bz [], Ao "lowest" "lowest" K2 [], Ao "compare" "compare" JU [], Ao "height_at" "height_at" GA [], Ao "line_by" "line_by" Js []]
noncomputable def obs7 (K : W.Frag) : List (Seen) := [BS K "passes", BS K "passes_all", BS K "places_passed", BS K "foot_to_head", BS K "tightest_pair", BS K "steepest_found", BS K "level_throw", BS K "common_throw"]
noncomputable def val7 : List (Seen) := [Ao "passes" "passes" Kn [], Ao "passes_all" "passes_all" Ej [], Ao "places_passed" "places_passed" Cm [], Ao "foot_to_head" "foot_to_head" DV [], Ao "tightest_pair" "tightest_pair" Cq [], Ao "steepest_found" "steepest_found" CK [], Ao "level_throw" "level_throw" EB [], Ao "common_throw" "common_throw" DY []]
noncomputable def obs8 (K : W.Frag) : List (Seen) := [BS K "bar_told", BS K "throw_through", BS K "steepest_throw", BS K "turned_over", BS K "turned_throw", BS K "flattest_throw", BS K "tried_throws", BS K "most_gates"]
noncomputable def val8 : List (Seen) := [Ao "bar_told" "bar_told" Hq [], Ao "throw_through" "throw_through" Ct [], Ao "steepest_throw" "steepest_throw" CP [], Ao "turned_over" "turned_over" D4 [], Ao "turned_throw" "turned_throw" DW [], Ao "flattest_throw" "flattest_throw" CS [], Ao "tried_throws" "tried_throws" Dc [], Ao "most_gates" "most_gates" E9 []]
noncomputable def obs9 (K : W.Frag) : List (Seen) := [BS K "check_gate", BS K "check_places", BS K "check_throw", C1 K "Beach" "__init__" "Beach.__init__", C1 K "Beach" "has_gate" "Beach.has_gate", C1 K "Beach" "gate_at" "Beach.gate_at", C1 K "Beach" "do_deed" "Beach.do_deed", C1 K "Beach" "put" "Beach.put"]
noncomputable def val9 : List (Seen) := [Ao "check_gate" "check_gate" E3 [], Ao "check_places" "check_places" DZ [], Ao "check_throw" "check_throw" D7 [], Ao "__init__" "Beach.__init__" E5 [], Ao "has_gate" "Beach.has_gate" CJ [], Ao "gate_at" "Beach.gate_at" Ck [], Ao "do_deed" "Beach.do_deed" Co [], Ao "put" "Beach.put" Fo []]
noncomputable def obs10 (K : W.Frag) : List (Seen) := [C1 K "Beach" "take" "Beach.take", C1 K "Beach" "lift" "Beach.lift", C1 K "Beach" "sink" "Beach.sink", C1 K "Beach" "back" "Beach.back", C1 K "Beach" "gates" "Beach.gates", C1 K "Beach" "deeds" "Beach.deeds", C1 K "Beach" "gates_at" "Beach.gates_at", C1 K "Beach" "two_gates_at" "Beach.two_gates_at"]
noncomputable def val10 : List (Seen) := [Ao "take" "Beach.take" Ez [], Ao "lift" "Beach.lift" Er [], Ao "sink" "Beach.sink" Eu [], Ao "back" "Beach.back" Es [1], Ao "gates" "Beach.gates" Dx [], Ao "deeds" "Beach.deeds" Dt [], Ao "gates_at" "Beach.gates_at" CO [], Ao "two_gates_at" "Beach.two_gates_at" Bd []]
noncomputable def obs11 (K : W.Frag) : List (Seen) := [C1 K "Beach" "through" "Beach.through", C1 K "Beach" "steepest" "Beach.steepest", C1 K "Beach" "flattest" "Beach.flattest", C1 K "Beach" "most" "Beach.most", C1 K "Beach" "passed" "Beach.passed", BS K "are_figures", BS K "read_number", BS K "read_fraction"]
noncomputable def val11 : List (Seen) := [Ao "through" "Beach.through" Cj [], Ao "steepest" "Beach.steepest" CT [], Ao "flattest" "Beach.flattest" CU [], Ao "most" "Beach.most" E6 [], Ao "passed" "Beach.passed" DX [], Ao "are_figures" "are_figures" Ds [], Ao "read_number" "read_number" D5 [], Ao "read_fraction" "read_fraction" Cs []]
noncomputable def obs12 (K : W.Frag) : List (Seen) := [BS K "_law_at", BS K "_law_deeds", BS K "_law_asks", BS K "_law_full", BS K "_law_count", BS K "_law_mine", BS K "law"]
noncomputable def val12 : List (Seen) := [Ao "_law_at" "_law_at" Op [], Ao "_law_deeds" "_law_deeds" Jv [], Ao "_law_asks" "_law_asks" K7 [], Ao "_law_full" "_law_full" Kh [], Ao "_law_count" "_law_count" Gc [], Ao "_law_mine" "_law_mine" II [], Ao "law" "law" O7 []]
noncomputable def obs13 (K : W.Frag) : List (Option Int) := [M9 K "LEAST", M9 K "GREATEST", M9 K "MOST_GATES", M9 K "MOST_DEEDS", M9 K "SMALL_BEACH", M9 K "GREAT_NUMBER", M9 K "MOST_FIGURES"]
noncomputable def val13 : List (Option Int) := [some (-1000), some (1000), some (40), some (300), some (12), some (999999999), some (9)]
noncomputable def obs14 (K : W.Frag) : List (Option Str) := [VT K "FIGURES"]
noncomputable def val14 : List (Option Str) := [some "0123456789"]
noncomputable def OY (K : W.Frag) : List (Bool) × List (Bool) × List (Bool) × List (Bool) × List (Option Bool) × List (Option Bool) × List (Seen) × List (Seen) × List (Seen) × List (Seen) × List (Seen) × List (Seen) × List (Seen) × List (Option Int) × List (Option Str) := (obs0 K, obs1 K, obs2 K, obs3 K, obs4 K, obs5 K, obs6 K, obs7 K, obs8 K, obs9 K, obs10 K, obs11 K, obs12 K, obs13 K, obs14 K)
noncomputable def P4 : List (Bool) × List (Bool) × List (Bool) × List (Bool) × List (Option Bool) × List (Option Bool) × List (Seen) × List (Seen) × List (Seen) × List (Seen) × List (Seen) × List (Seen) × List (Seen) × List (Option Int) × List (Option Str) := (val0, val1, val2, val3, val4, val5, val6, val7, val8, val9, val10, val11, val12, val13, val14)
noncomputable def SX (w : World) (os : PySem.OsState) := Jt PySem.Challenge.pw_throwgate_k29_classes qv JT (fun _ => ()) 4894 w os
noncomputable def O2 := some (true, W.openGood qv JT, ())
noncomputable def Sn (w : World) (os : PySem.OsState) := Rt PySem.Challenge.pw_throwgate_k29_classes (fun s => (LM.F6 (OV s.tree s.n Dd), OY (Pj addrs s))) 4894 w os
noncomputable def Pb := some (true, P4)
theorem QM : SX = SX := rfl
theorem Ou : O2 = O2 := rfl
name_quick runAY for TG.SX by TG.QM
name_quick goodAY for TG.O2 by TG.Ou
theorem runA0 (w : World) (os : PySem.OsState) : PySem.W.Fast.runAY w os = PySem.W.Fast.goodAY := by kernel_rfl
theorem runA1 (w : World) (os : PySem.OsState) : SX w os = O2 := ((congrFun (congrFun PySem.W.Fast.runAY_eq w) os).trans (runA0 w os)).trans PySem.W.Fast.goodAY_eq.symm
theorem P5 : Sn = Sn := rfl
theorem ON : Pb = Pb := rfl
name_quick runBY for TG.Sn by TG.P5
name_quick goodBY for TG.Pb by TG.ON
theorem runB0 (w : World) (os : PySem.OsState) : PySem.W.Fast.runBY w os = PySem.W.Fast.goodBY := by kernel_rfl
theorem runB1 (w : World) (os : PySem.OsState) : Sn w os = Pb := ((congrFun (congrFun PySem.W.Fast.runBY_eq w) os).trans (runB0 w os)).trans PySem.W.Fast.goodBY_eq.symm
theorem runs (w : World) (os : PySem.OsState) : Jt PySem.Challenge.pw_throwgate_k29_classes qv JT (fun s => (LM.F6 (OV s.tree s.n Dd), OY (Pj addrs s))) 4894 w os = some (true, W.openGood qv JT, (true, P4)) := Ox (runA1 w os) (runB1 w os)
theorem left : W.LeftO PySem.Challenge.pw_throwgate_k29_classes qv JT (fun _ => true) (fun s => (LM.F6 (s.heap.get? Dd), OY (Kof addrs s.heap))) (fun _ => (true, P4)) 9848 :=
 Sc (M := 4894) (obs := fun s => (LM.F6 (OV s.tree s.n Dd), OY (Pj addrs s))) (by kernel_rfl) rfl (fun _ => rfl) rfl (fun s => LM.RG s) runs
theorem inj1 {α : Type} {a0 b0 : α} (h : [a0] = [b0]) : a0 = b0 := by simp only [zr, and_true] at h; exact h
theorem inj4 {α : Type} {a0 b0 a1 b1 a2 b2 a3 b3 : α} (h : [a0, a1, a2, a3] = [b0, b1, b2, b3]) : a0 = b0 ∧ a1 = b1 ∧ a2 = b2 ∧ a3 = b3 := by simp only [zr, and_true] at h; exact h
theorem inj5 {α : Type} {a0 b0 a1 b1 a2 b2 a3 b3 a4 b4 : α} (h : [a0, a1, a2, a3, a4] = [b0, b1, b2, b3, b4]) : a0 = b0 ∧ a1 = b1 ∧ a2 = b2 ∧ a3 = b3 ∧ a4 = b4 := by simp only [zr, and_true] at h; exact h
theorem inj7 {α : Type} {a0 b0 a1 b1 a2 b2 a3 b3 a4 b4 a5 b5 a6 b6 : α} (h : [a0, a1, a2, a3, a4, a5, a6] = [b0, b1, b2, b3, b4, b5, b6]) : a0 = b0 ∧ a1 = b1 ∧ a2 = b2 ∧ a3 = b3 ∧ a4 = b4 ∧ a5 = b5 ∧ a6 = b6 := by simp only [zr, and_true] at h; exact h
theorem MJ {α : Type} {a0 b0 a1 b1 a2 b2 a3 b3 a4 b4 a5 b5 a6 b6 a7 b7 : α} (h : [a0, a1, a2, a3, a4, a5, a6, a7] = [b0, b1, b2, b3, b4, b5, b6, b7]) : a0 = b0 ∧ a1 = b1 ∧ a2 = b2 ∧ a3 = b3 ∧ a4 = b4 ∧ a5 = b5 ∧ a6 = b6 ∧ a7 = b7 := by simp only [zr, and_true] at h; exact h
set_option genInjectivity false in
structure Tx (K : W.Frag) (mg : Str → Option Value) where
 AN : Addr
 Sq : mg "Beach" = some (.ref AN)
 AH : Cls K AN
 AU : Fm K AN "standing"
 BC : Fm K AN "past"
 AX : Addr
 NQ : mg "BeachError" = some (.ref AX)
 SV : EE K AX
 BO : Addr
 LV : mg "NoGate" = some (.ref BO)
 Q0 : EE K BO
 Bi : Addr
 NI : mg "Taken" = some (.ref Bi)
 So : EE K Bi
 Am : Addr
 FD : mg "UpsideDown" = some (.ref Am)
 NE : EE K Am
 Ac : Addr
 CY : mg "OutOfBounds" = some (.ref Ac)
 HJ : EE K Ac
 Au : Addr
 Fs : mg "BeachFull" = some (.ref Au)
 N3 : EE K Au
 As : Addr
 Fu : mg "DeedsFull" = some (.ref As)
 OM : EE K As
 Ad : Addr
 Dr : mg "NothingBack" = some (.ref Ad)
 L5 : EE K Ad
 BF : Addr
 EY : mg "BadList" = some (.ref BF)
 Jr : EE K BF
 BM : Addr
 Kq : mg "TooFew" = some (.ref BM)
 Qf : EE K BM
 Av : Addr
 GH : mg "WrongSize" = some (.ref Av)
 N0 : EE K Av
 A2 : Addr
 E7 : mg "BadThrow" = some (.ref A2)
 LR : EE K A2
 BR : Addr
 Im : mg "BadRow" = some (.ref BR)
 OI : EE K BR
 xs : QR K [BO, Bi, Am, Ac, Au, As, Ad, BF, BM, Av, A2, BR]
 qs : ∀ (i : Nat) (a : Addr), [BO, Bi, Am, Ac, Au, As, Ad, BF, BM, Av, A2, BR][i]? = some a → ExC K a
 Gg : W.exmOne K (.ref BO) (.ref AX) = some true
 Hm : W.exmOne K (.ref Bi) (.ref AX) = some true
 ER : W.exmOne K (.ref Am) (.ref AX) = some true
 Dv : W.exmOne K (.ref Ac) (.ref AX) = some true
 Eo : W.exmOne K (.ref Au) (.ref AX) = some true
 Et : W.exmOne K (.ref As) (.ref AX) = some true
 Dy : W.exmOne K (.ref Ad) (.ref AX) = some true
 GS : W.exmOne K (.ref BF) (.ref AX) = some true
 Gm : W.exmOne K (.ref BM) (.ref AX) = some true
 Ep : W.exmOne K (.ref Av) (.ref AX) = some true
 Fh : W.exmOne K (.ref A2) (.ref AX) = some true
 Gn : W.exmOne K (.ref BR) (.ref AX) = some true
 GL : Addr
 FU : FuncData
 DQ : D K mg "side_of_line" DH ["place", "height", "start", "end"] GL FU
 Mt : Addr
 KW : FuncData
 Mo : D K mg "barring" Je ["one", "two", "three"] Mt KW
 HA : Addr
 Fk : FuncData
 HN : D K mg "first_three" EA ["gates"] HA Fk
 Da : Addr
 Cu : FuncData
 DU : D K mg "greatest_divisor" Bz ["one", "two"] Da Cu
 OG : Addr
 M0 : FuncData
 Ir : D K mg "lowest" K2 ["top", "bottom"] OG M0
 Mf : Addr
 LX : FuncData
 GV : D K mg "compare" JU ["one", "two"] Mf LX
 J5 : Addr
 Iz : FuncData
 J4 : D K mg "height_at" GA ["throw", "place"] J5 Iz
 Mz : Addr
 KU : FuncData
 JZ : D K mg "line_by" Js ["place", "height", "other", "second"] Mz KU
 OB : Addr
 Mi : FuncData
 Km : D K mg "passes" Kn ["throw", "gate"] OB Mi
 IM : Addr
 G7 : FuncData
 Iq : D K mg "passes_all" Ej ["throw", "gates"] IM G7
 FE : Addr
 Eg : FuncData
 Ch : D K mg "places_passed" Cm ["throw", "ordered"] FE Eg
 F5 : Addr
 FY : FuncData
 DS : D K mg "foot_to_head" DV ["earlier", "later"] F5 FY
 FL : Addr
 Eb : FuncData
 Fd : D K mg "tightest_pair" Cq ["ordered"] FL Eb
 Ei : Addr
 Dl : FuncData
 Bn : D K mg "steepest_found" CK ["ordered"] Ei Dl
 HR : Addr
 F1 : FuncData
 Dz : D K mg "level_throw" EB ["height"] HR F1
 GK : Addr
 Fe : FuncData
 DL : D K mg "common_throw" DY ["ordered"] GK Fe
 LD : Addr
 J0 : FuncData
 E1 : D K mg "bar_told" Hq ["gates"] LD J0
 FJ : Addr
 EW : FuncData
 FV : D K mg "throw_through" Ct ["gates"] FJ EW
 Ed : Addr
 Dq : FuncData
 ED : D K mg "steepest_throw" CP ["gates"] Ed Dq
 HE : Addr
 Fi : FuncData
 G9 : D K mg "turned_over" D4 ["gate"] HE Fi
 Fj : Addr
 FF : FuncData
 Fw : D K mg "turned_throw" DW ["throw"] Fj FF
 EX : Addr
 Dn : FuncData
 EZ : D K mg "flattest_throw" CS ["gates"] EX Dn
 GC : Addr
 FZ : FuncData
 F3 : D K mg "tried_throws" Dc ["ordered"] GC FZ
 Ii : Addr
 D6 : FuncData
 IS : D K mg "most_gates" E9 ["gates"] Ii D6
 NP : Addr
 Lo : LM.Nu K mg D6.code NP 335
 Hv : Addr
 HH : FuncData
 E4 : D K mg "check_gate" E3 ["gate"] Hv HH
 F2 : Addr
 FW : FuncData
 Fv : D K mg "check_places" DZ ["places"] F2 FW
 G1 : Addr
 Ft : FuncData
 G5 : D K mg "check_throw" D7 ["throw"] G1 Ft
 Em : Addr
 Gy : FuncData
 Ig : DM K AN "__init__" "Beach.__init__" E5 ["self"] Em Gy
 Ee : Addr
 Di : FuncData
 CN : DM K AN "has_gate" "Beach.has_gate" CJ ["self", "place"] Ee Di
 FG : Addr
 EF : FuncData
 BB : DM K AN "gate_at" "Beach.gate_at" Ck ["self", "place"] FG EF
 FQ : Addr
 Eh : FuncData
 A7 : DM K AN "do_deed" "Beach.do_deed" Co ["self", "place", "instead"] FQ Eh
 Jz : Addr
 JG : FuncData
 At : DM K AN "put" "Beach.put" Fo ["self", "place", "foot", "head"] Jz JG
 Ih : Addr
 Gu : FuncData
 BV : DM K AN "take" "Beach.take" Ez ["self", "place"] Ih Gu
 IH : Addr
 HV : FuncData
 Aw : DM K AN "lift" "Beach.lift" Er ["self", "place", "foot_by", "head_by"] IH HV
 Iv : Addr
 HB : FuncData
 BU : DM K AN "sink" "Beach.sink" Eu ["self", "place", "foot_by", "head_by"] Iv HB
 IC : Addr
 HP : FuncData
 B3 : DMD K AN "back" "Beach.back" Es ["self", "many"] IC HP [.int 1]
 HL : Addr
 Fn : FuncData
 L8 : DM K AN "gates" "Beach.gates" Dx ["self"] HL Fn
 Go : Addr
 GR : FuncData
 MB : DM K AN "deeds" "Beach.deeds" Dt ["self"] Go GR
 EU : Addr
 Do : FuncData
 BQ : DM K AN "gates_at" "Beach.gates_at" CO ["self", "places"] EU Do
 Cg : Addr
 CC : FuncData
 A5 : DM K AN "two_gates_at" "Beach.two_gates_at" Bd ["self", "places"] Cg CC
 Fb : Addr
 EQ : FuncData
 BX : DM K AN "through" "Beach.through" Cj ["self", "places"] Fb EQ
 Ea : Addr
 De : FuncData
 A4 : DM K AN "steepest" "Beach.steepest" CT ["self", "places"] Ea De
 EM : Addr
 Dj : FuncData
 A3 : DM K AN "flattest" "Beach.flattest" CU ["self", "places"] EM Dj
 IA : Addr
 HI : FuncData
 Ev : DM K AN "most" "Beach.most" E6 ["self"] IA HI
 GF : Addr
 Fc : FuncData
 DG : DM K AN "passed" "Beach.passed" DX ["self", "throw"] GF Fc
 G6 : Addr
 F9 : FuncData
 HM : D K mg "are_figures" Ds ["text"] G6 F9
 HW : Addr
 Fx : FuncData
 Bw : D K mg "read_number" D5 ["text"] HW Fx
 FS : Addr
 ET : FuncData
 FP : D K mg "read_fraction" Cs ["text"] FS ET
 RX : Addr
 PX : FuncData
 Jq : D K mg "_law_at" Op ["_law_script", "_law_k"] RX PX
 Mh : Addr
 Kc : FuncData
 GZ : D K mg "_law_deeds" Jv ["_law_beach", "_law_turn", "_law_place", "_law_other"] Mh Kc
 Nh : Addr
 Mb : FuncData
 I0 : D K mg "_law_asks" K7 ["_law_beach", "_law_turn", "_law_place", "_law_other"] Nh Mb
 Nt : Addr
 Mu : FuncData
 IG : D K mg "_law_full" Kh ["_law_beach", "_law_turn", "_law_place"] Nt Mu
 Jg : Addr
 K5 : FuncData
 MY : D K mg "_law_count" Gc ["_law_e"] Jg K5
 LL : Addr
 Mj : FuncData
 Nx : D K mg "_law_mine" II ["_law_e", "_law_turn"] LL Mj
 S5 : Addr
 Qn : FuncData
 d_law : D K mg "law" O7 ["_law_script"] S5 Qn
 Kb : Mk K AN Em
 O3 : Value
 SL : mg "LEAST" = some O3
 Sr : RelV (.int (-1000)) O3
 LY : Value
 Oa : mg "GREATEST" = some LY
 OU : RelV (.int (1000)) LY
 Hw : Value
 IZ : mg "MOST_GATES" = some Hw
 IX : RelV (.int (40)) Hw
 IV : Value
 M2 : mg "MOST_DEEDS" = some IV
 NZ : RelV (.int (300)) IV
 G3 : Value
 Lz : mg "SMALL_BEACH" = some G3
 Lx : RelV (.int (12)) G3
 Fp : Value
 Fq : mg "GREAT_NUMBER" = some Fp
 GD : RelV (.int (999999999)) Fp
 Mw : Value
 P9 : mg "FIGURES" = some Mw
 P1 : RelV (.str "0123456789") Mw
 Fz : Value
 KY : mg "MOST_FIGURES" = some Fz
 K0 : RelV (.int (9)) Fz
 NO : mg "ValueError" = none
 S9 : mg "abs" = none
 TB : mg "all" = none
 J7 : mg "enumerate" = none
 EG : mg "int" = none
 AS : mg "isinstance" = none
 Bv : mg "len" = none
 UO : mg "list" = none
 z_max : mg "max" = none
 Ip : mg "range" = none
 z_set : mg "set" = none
 EH : mg "sorted" = none
noncomputable def Tx.err {K : W.Frag} {mg : Str → Option Value} (T : Tx K mg) : Err → Value
 | .nogate => .ref T.BO
 | .taken => .ref T.Bi
 | .upside => .ref T.Am
 | .bounds => .ref T.Ac
 | .full => .ref T.Au
 | .deeds => .ref T.As
 | .nothing => .ref T.Ad
 | .badlist => .ref T.BF
 | .few => .ref T.BM
 | .size => .ref T.Av
 | .badthrow => .ref T.A2
 | .badrow => .ref T.BR
section
variable {P : Program} {w : World} {K : W.Frag} {mg : Str → Option Value} {base : Heap}
theorem Ci : AL ["place", "height", "start", "end", "steps", "gain"] ["place", "height", "start", "end"] (AF DH) := by walk_at "SC"
noncomputable def FN (K : W.Frag) : Sp := fun vs H Q _ => ∃ (s e : Addr) (pl h s0 s1 e0 e1 : Int), vs = [.int pl, .int h, .ref s, .ref e] ∧ SqT K H s [.int s0, .int s1] ∧ SqT K H e [.int e0, .int e1] ∧ pl.natAbs ≤ 1000 ∧ h.natAbs ≤ 1000 ∧ s0.natAbs ≤ 1000 ∧ s1.natAbs ≤ 1000 ∧ e0.natAbs ≤ 1000 ∧ e1.natAbs ≤ 1000 ∧ Q (.int ((h - s1) * (e0 - s0) - (e1 - s1) * (pl - s0))) H
theorem FI (T : Tx K mg) : Aj P w K mg base CX0 1 T.GL T.FU ["place", "height", "start", "end"] (FN K) := by
 refine T.DQ.F.ok Ci (fun _ _ _ _ h => by walk_at "LN") ?_
 ·walk_at "I2"
  obtain ⟨s, e, pl, h, s0, s1, e0, e1, rfl, hs, he, b1, b2, b3, b4, b5, b6, k⟩ := h
  refine ⟨_, (AD (pst 4 Ci (AV Bt (pxi AO (pv 3) AC) (pxi AO (pv 2) AC)))
   (AD (pst 5 Ci (AV Bt (pxi AO (pv 3) AC) (pxi AO (pv 2) AC)))
   (AE (AG (AV Bt (AV CV (AV Bt (pv 1) (pxi AO (pv 2) AC)) (pv 4)) (AV CV (pv 5) (AV Bt (pv 0) (pxi AO (pv 2) AC)))))))), ?_⟩
  walk_at "RD"
  walk_at "AUTO"
  exact k
theorem Ov : AL ["one", "two", "three"] ["one", "two", "three"] (AF Je) := by walk_at "SC"
noncomputable def KZ (K : W.Frag) : Sp := fun vs H Q _ => ∃ (x y z : Addr) (a b c : G), vs = [.ref x, .ref y, .ref z] ∧ SqT K H x (G.vs a) ∧ SqT K H y (G.vs b) ∧ SqT K H z (G.vs c) ∧ OkG a ∧ OkG b ∧ OkG c ∧ a.p < b.p ∧ b.p < c.p ∧ ∀ H', AI H H' → Q (.str (SN a b c)) H'
theorem OS (T : Tx K mg) : Aj P w K mg base CX0 2 T.Mt T.KW ["one", "two", "three"] (KZ K) := by
 refine T.Mo.F.ok Ov (fun _ _ _ _ h => by walk_at "LN") ?_
 ·walk_at "I2"
  obtain ⟨x, y, z, a, b, c, rfl, ex, ey, ez, o1, o2, o3, l1, l2, k⟩ := h
  refine ⟨_, (AD (AT (ptc Ec (pcl T.DQ (FI T) hr Ag (AA (pxi AO (pv 1) AC) (AA (pxi AO (pv 1) AC) (AA (An (AA (pxi AO (pv 0) AC) (AA (pxi AO (pv 0) AC) AB))) (AA (An (AA (pxi AO (pv 2) AC) (AA (pxi AO (pv 2) AC) AB))) AB))))) AC) (AE (AG Ar))
    AM)
   (AD (AT (ptc Bc (pcl T.DQ (FI T) hr Ag (AA (pxi AO (pv 1) AC) (AA (pxi AO (pv 1) AC) (AA (An (AA (pxi AO (pv 0) AC) (AA (pxi AO (pv 0) AC) AB))) (AA (An (AA (pxi AO (pv 2) AC) (AA (pxi AO (pv 2) AC) AB))) AB))))) AC) (AE (AG Ar))
    AM)
   (AE (AG Ar)))), ?_⟩
  obtain ⟨p1, p2, p3, p4, p5⟩ := id o1
  obtain ⟨q1, q2, q3, q4, q5⟩ := id o2
  obtain ⟨r1, r2, r3, r4, r5⟩ := id o3
  have eF : (0 < (b.f - a.h) * (c.p - a.p) - (c.h - a.h) * (b.p - a.p)) ↔ Bl a b c := by
   unfold Bl
   have e : (b.f - a.h) * (c.p - a.p) - (c.h - a.h) * (b.p - a.p) = b.f * (c.p - a.p) - (a.h * (c.p - b.p) + c.h * (b.p - a.p)) := by grind
   rw [e]
   lia
  have eH : ((b.h - a.f) * (c.p - a.p) - (c.f - a.f) * (b.p - a.p) < 0) ↔ Bs a b c := by
   unfold Bs
   have e : (b.h - a.f) * (c.p - a.p) - (c.f - a.f) * (b.p - a.p) = b.h * (c.p - a.p) - (a.f * (c.p - b.p) + c.f * (b.p - a.p)) := by grind
   rw [e]
   lia
  walk_at "RD"
  walk_at "AUTO"
  unfold FN
  refine ⟨_, _, _, _, _, _, _, _, rfl, (by walk_at "SQT4"), (by walk_at "SQT4"), by lia, by lia, by lia, by lia, by lia, by lia, ?_⟩
  refine ⟨_, rfl, ?_⟩
  unfold SN at k
  by_cases hf : Bl a b c
  ·rw [if_pos (z5 (eF.mpr hf))]
   rw [if_pos hf] at k
   exact k _ (by walk_at "SAME5")
  ·rw [if_neg (fun z => hf (eF.mp (z4 z)))]
   rw [if_neg hf] at k
   walk_at "AUTO"
   refine ⟨_, _, _, _, _, _, _, _, rfl, (by walk_at "SQT4"), (by walk_at "SQT4"), by lia, by lia, by lia, by lia, by lia, by lia, ?_⟩
   refine ⟨_, rfl, ?_⟩
   by_cases hh : Bs a b c
   ·rw [if_pos (z5 (eH.mpr hh))]
    rw [if_pos hh] at k
    exact k _ (by walk_at "SAME5")
   ·rw [if_neg (fun z => hh (eH.mp (z4 z)))]
    rw [if_neg hh] at k
    exact k _ (by walk_at "SAME5")
theorem BN : AL ["gates", "ordered", "count", "first", "middle", "last"] ["gates"] (AF EA) := by walk_at "SC"
noncomputable def F7 (K : W.Frag) : Sp := fun vs H Q _ => ∃ (l : Addr) (as : List Addr) (gs : List G), vs = [.ref l] ∧ SqL K H l (as.map V.ref) ∧ Aq H as gs ∧ (gs.map G.p).Nodup ∧ gs.length ≤ 40 ∧ (∀ g ∈ gs, OkG g) ∧ (∀ H', AI H H' → Hs gs [] → Q .non H') ∧ ∀ D H' t, AI H H' → H' D = some (.tup (t.map V.int)) → t ≠ [] → Hs gs t → Q (.ref D) H'
theorem N8 {a b c : G} : SN a b c = "" ↔ ¬ LK a b c := by
 unfold SN LK
 by_cases hf : Bl a b c
 ·rw [if_pos hf]
  exact ⟨fun z => absurd z (by decide), fun z => absurd (.inl hf) z⟩
 ·rw [if_neg hf]
  by_cases hh : Bs a b c
  ·rw [if_pos hh]
   exact ⟨fun z => absurd z (by decide), fun z => absurd (.inr hh) z⟩
  ·rw [if_neg hh]
   exact ⟨fun _ z => z.elim hf hh, fun _ => rfl⟩
noncomputable def Vf1 (l D : Addr) (n : Int) (sg : List G) (H : Hp) : Nat → St → Hp → Prop := fun i σ H' => ∃ x y z, σ = [some (.ref l), some (.ref D), some (.int n), x, y, z] ∧ AI H H' ∧ Ax sg i 0 0
noncomputable def Vf2 (l D : Addr) (n : Int) (sg : List G) (H : Hp) (i : Nat) : Nat → St → Hp → Prop := fun t σ H' => ∃ y z, σ = [some (.ref l), some (.ref D), some (.int n), some (.int (0 + (i : Int))), y, z] ∧ AI H H' ∧ Ax sg i (i + 1 + t) 0
noncomputable def Vf3 (l D : Addr) (n : Int) (sg : List G) (H : Hp) (i j : Nat) : Nat → St → Hp → Prop := fun t σ H' => ∃ z, σ = [some (.ref l), some (.ref D), some (.int n), some (.int (0 + (i : Int))), some (.int (0 + (i : Int) + 1 + (j : Int))), z] ∧ AI H H' ∧ Ax sg i (i + 1 + j) (i + 1 + j + 1 + t)
theorem La (T : Tx K mg) : Aj P w K mg base CX0 3 T.HA T.Fk ["gates"] (F7 K) := by
 refine T.HN.F.ok BN (fun _ _ _ _ h => by walk_at "LN") ?_
 ·walk_at "I2"
  obtain ⟨l, as0, gs0, rfl, hl0, ga0, nd, h64, ok0, kn, kk⟩ := h
  refine ⟨_, (AD (pst 1 BN (AK Bq (by rfl) T.EH DF (AA (pv 0) AB)))
   (AD (pst 2 BN (AK AZ (by rfl) T.Bv BP (AA (pv 1) AB)))
   (AD (Cr PassesOwn.never rfl (Ja (by rfl) T.Ip (AA (pv 2) AB)) (pgn 3 BN)
    (AE (Cr PassesOwn.never rfl (MW (by rfl) T.Ip (AA (AV BA (pv 3) AC) (AA (pv 2) AB))) (pgn 4 BN)
      (AE (Cr PassesOwn.never rfl (MW (by rfl) T.Ip (AA (AV BA (pv 4) AC) (AA (pv 2) AB))) (pgn 5 BN)
        (AE (AT (ptc Qj (pcl T.Mo (OS T) hr Ag (AA (pxi Bj (pv 1) (pv 3)) (AA (pxi Bj (pv 1) (pv 4)) (AA (pxi Bj (pv 1) (pv 5)) AB)))) Ar) (AE (AG (An (AA (pxi AO (pxi Bj (pv 1) (pv 3)) AC) (AA (pxi AO (pxi Bj (pv 1) (pv 4)) AC) (AA (pxi AO (pxi Bj (pv 1) (pv 5)) AC) AB))))))
          AM)))))))
   (AE (AG Hd))))), ?_⟩
  walk_at "RD"
  walk_at "AUTO"
  intro D H1 as gs nD s1 e1 ga hp ha
  have ok : ∀ g ∈ gs, OkG g := fun g hg => ok0 g (hp.mem_iff.mp hg)
  have la := ga.len
  have lg := hp.length_eq
  have hlm : (as.map V.ref).length = gs.length := by rw [z6, la]
  have sl := SqL.of (K := K) e1
  refine ⟨_, Or.inl sl, ?_⟩
  rw [hlm]
  refine ⟨_, rfl, (gs.length : Int), rfl, by lia, by lia, ES (Vf1 l D gs.length gs H1) ⟨none, none, none, rfl, AI.refl _, Rn gs⟩ ?_ ?_⟩
  ·rintro i σ H2 hi ⟨x, y, z, rfl, t2, n1⟩
   have hi' : i < gs.length := by lia
   refine ⟨_, rfl, _, _, rfl, rfl, _, rfl, _, _, rfl, ⟨by lia, by lia, by lia, by lia⟩, ES (Vf2 l D gs.length gs H1 i) ⟨_, _, rfl, t2, T7 n1⟩ ?_ ?_⟩
   ·rintro j σ H3 hj ⟨y, z, rfl, t3, n2⟩
    have hj' : i + 1 + j < gs.length := by lia
    refine ⟨_, rfl, _, _, rfl, rfl, _, rfl, _, _, rfl, ⟨by lia, by lia, by lia, by lia⟩, ES (Vf3 l D gs.length gs H1 i j) ⟨_, rfl, t3, na_in n2⟩ ?_ ?_⟩
    ·rintro u σ H4 hu' ⟨z, rfl, t4, n3⟩
     have hk' : i + 1 + j + 1 + u < gs.length := by lia
     obtain ⟨a1, ha1, t1'⟩ := ga.get (z0 hi')
     obtain ⟨a2, ha2, t2'⟩ := ga.get (z0 hj')
     obtain ⟨a3, ha3, t3'⟩ := ga.get (z0 hk')
     have t1 := t4.get t1'
     have t2 := t4.get t2'
     have t3 := t4.get t3'
     have i1 : atI (as.map V.ref) (0 + (i : Int)) = some (V.ref a1) := by rw [Int.zero_add]; exact DO ha1
     have i2 : atI (as.map V.ref) (0 + (i : Int) + 1 + (j : Int)) = some (V.ref a2) := by rw [show 0 + (i : Int) + 1 + (j : Int) = ((i + 1 + j : Nat) : Int) by lia]; exact DO ha2
     have i3 : atI (as.map V.ref) (0 + (i : Int) + 1 + (j : Int) + 1 + (u : Int)) = some (V.ref a3) := by rw [show 0 + (i : Int) + 1 + (j : Int) + 1 + (u : Int) = ((i + 1 + j + 1 + u : Nat) : Int) by lia]; exact DO ha3
     have o1 := ok _ (zR hi')
     have o2 := ok _ (zR hj')
     have o3 := ok _ (zR hk')
     have g1 := DN ha (z0 hi') (z0 hj') (by lia)
     have g2 := DN ha (z0 hj') (z0 hk') (by lia)
     have sl4 := t4.seq sl
     walk_at "RD"
     walk_at "AUTO"
     unfold KZ
     refine ⟨_, _, _, gs[i], gs[i + 1 + j], gs[i + 1 + j + 1 + u], rfl, SqT.of t1, SqT.of t2, SqT.of t3, o1, o2, o3, g1, g2, fun H5 s5 => ?_⟩
     have t5 := t4.trans s5
     have e1 := s5.get t1
     have e2 := s5.get t2
     have e3 := s5.get t3
     have sl5 := s5.seq sl4
     refine ⟨rfl, ?_⟩
     by_cases hb : LK gs[i] gs[i + 1 + j] gs[i + 1 + j + 1 + u]
     ·rw [zV (fun z => N8.mp (V.str.inj z) hb)]
      walk_at "AUTO"
      exact kk p H' [gs[i].p, gs[i + 1 + j].p, gs[i + 1 + j + 1 + u].p] (s1.trans (t5.trans hs)) he (by simp) (.perm (.yes gs (List.Perm.refl _) ha i (i + 1 + j) (i + 1 + j + 1 + u) _ _ _ ⟨⟨by lia, by lia, _, _, _, z0 hi', z0 hj', z0 hk', hb⟩, n3⟩ (z0 hi') (z0 hj') (z0 hk') rfl) hp)
     ·rw [z5 (congrArg V.str (N8.mpr hb))]
      refine ⟨_, rfl, t5, Se n3 fun ⟨_, _, a, b, c, f1, f2, f3, f4⟩ => hb ?_⟩
      rw [z0 hi'] at f1
      rw [z0 hj'] at f2
      have f3 : gs[i + 1 + j + 1 + u]? = some c := f3
      rw [z0 hk'] at f3
      cases f1
      cases f2
      cases f3
      exact f4
    ·rintro σ H4 ⟨z, rfl, t4, n3⟩
     exact ⟨_, _, rfl, t4, QJ (by lia) n3⟩
   ·rintro σ H3 ⟨y, z, rfl, t3, n2⟩
    exact ⟨_, _, _, rfl, t3, Oj (by lia) n2⟩
  ·rintro σ H2 ⟨x, y, z, rfl, t2, n1⟩
   walk_at "RD"
   exact kn _ (s1.trans t2) (.perm (.no gs (List.Perm.refl _) ha (na_no n1) rfl) hp)
theorem Ay : AL ["one", "two", "divisor", "rest", "next_rest"] ["one", "two"] (AF Bz) := by walk_at "SC"
noncomputable def Cv : Sp := fun vs H Q _ => ∃ a b : Int, vs = [.int a, .int b] ∧ 0 ≤ a ∧ 0 ≤ b ∧ Q (.int (Int.gcd a b)) H
noncomputable def W_gd (a b : Int) (H : Hp) : Nat → St → Hp → Prop := fun m σ H' => ∃ (d r : Int) (x : Option V), m = r.toNat ∧ σ = [some (.int a), some (.int b), some (.int d), some (.int r), x] ∧ H' = H ∧ 0 ≤ d ∧ 0 ≤ r ∧ Int.gcd d r = Int.gcd a b
theorem Gk (T : Tx K mg) : Aj P w K mg base CX0 1 T.Da T.Cu ["one", "two"] Cv := by
 refine T.DU.F.ok Ay (fun _ _ _ _ h => by walk_at "LN") ?_
 ·walk_at "I2"
  obtain ⟨a, b, rfl, ha, hb, k⟩ := h
  refine ⟨_, (AD (pst 2 Ay (pv 0))
   (AD (pst 3 Ay (pv 1))
   (AD (Rg PassesOwn.never (ptc Qj (pv 3) AC)
    (AD (pst 4 Ay (AV R8 (pv 2) (pv 3)))
     (AD (pst 2 Ay (pv 3))
     (AE (pst 3 Ay (pv 4))))))
   (AE (AG (pv 2)))))), ?_⟩
  walk_at "RD"
  refine ⟨W_gd a b H, ⟨_, a, b, none, rfl, rfl, rfl, ha, hb, rfl⟩, ?_⟩
  rintro m σ H' ⟨d, r, x, rfl, rfl, rfl, hd, hr', e⟩
  walk_at "RDE"
  by_cases h0 : r = 0
  ·subst h0
   simp only [decide_true, Bool.not_true, zk, if_false]
   walk_at "RD"
   rw [← e, Pp hd] at k
   exact k
  ·simp only [h0, decide_false, Bool.not_false, if_true]
   refine ⟨_, fun _ _ h => h, ?_⟩
   walk_at "RD"
   have hp : 0 < r := by lia
   have hf := SU (d := d) hp
   refine ⟨h0, _, ?_, r, d.fmod r, _, rfl, rfl, rfl, hr', hf.1, (RL hd hp).trans e⟩
   lia
theorem JR : AL ["top", "bottom", "divisor"] ["top", "bottom"] (AF K2) := by walk_at "SC"
noncomputable def Gd : Sp := fun vs H Q _ => ∃ t b : Int, vs = [.int t, .int b] ∧ b ≠ 0 ∧ Sm b ∧ ∀ p H' x y, AI H H' → H' p = some (.tup [.int x, .int y]) → Hf t b x y → Q (.ref p) H'
noncomputable def C_lo (t b : Int) (H : Hp) : St → Hp → Prop := fun σ H' => ∃ d : Int, σ = [some (.int t), some (.int b), some (.int d)] ∧ H' = H ∧ d = if b < 0 then -((Int.gcd t b : Nat) : Int) else ((Int.gcd t b : Nat) : Int)
theorem JN (T : Tx K mg) : Aj P w K mg base CX0 2 T.OG T.M0 ["top", "bottom"] Gd := by
 refine T.Ir.F.ok JR (fun _ _ _ _ h => by walk_at "LN") ?_
 ·walk_at "I2"
  obtain ⟨t, b, rfl, hb, hs, k⟩ := h
  refine ⟨_, (AD (pst 2 JR (pcl T.DU (Gk T) hr Ag (AA (AK Ni (by rfl) T.S9 Qq (AA (pv 0) AB)) (AA (AK Ni (by rfl) T.S9 Qq (AA (pv 1) AB)) AB))))
   (O9 (AT (ptc Bc (pv 1) AC) (AE (pst 2 JR (JJ FC (pv 2))))
    AM)
   (AE (AG (An (AA (AV No (pv 0) (pv 2)) (AA (AV No (pv 1) (pv 2)) AB))))))), ?_⟩
  delta Cv
  refine ⟨by split <;> lia, by split <;> lia, C_lo t b H, ?_, ?_⟩
  ·rw [Rw]
   walk_at "RD"
   by_cases hn : b < 0
   ·rw [if_pos (z5 hn)]
    exact ⟨_, rfl, rfl, by rw [if_pos hn]⟩
   ·rw [if_neg (by simp [hn])]
    exact ⟨_, rfl, rfl, by rw [if_neg hn]⟩
  ·rintro σ' H' ⟨d, rfl, rfl, hd⟩
   obtain ⟨L, d0⟩ := UJ hb hd
   have ds : Sm d := by
    refine Nat.lt_of_le_of_lt ?_ hs
    have h1 : d.natAbs = Int.gcd t b := by rw [hd]; split <;> lia
    rw [h1]
    exact Nat.le_of_dvd (by lia) (Int.gcd_dvd_natAbs_right t b)
   walk_at "RD"
   exact ⟨d0, ds, d0, ds, by decide, fun p H1 hp hs he => k p _ _ _ hs he L⟩
theorem Hl : AL ["one", "two", "left", "right"] ["one", "two"] (AF JU) := by walk_at "SC"
noncomputable def LI (x y : Int) : Int := if x < y then -1 else if y < x then 1 else 0
noncomputable def HZ (K : W.Frag) : Sp := fun vs H Q _ => ∃ (p q : Addr) (a b c d : Int), vs = [.ref p, .ref q] ∧ SqT K H p [.int a, .int b] ∧ SqT K H q [.int c, .int d] ∧ Sm a ∧ Sm b ∧ Sm c ∧ Sm d ∧ Q (.int (LI (a * d) (c * b))) H
theorem Hj (T : Tx K mg) : Aj P w K mg base CX0 1 T.Mf T.LX ["one", "two"] (HZ K) := by
 refine T.GV.F.ok Hl (fun _ _ _ _ h => by walk_at "LN") ?_
 ·walk_at "I2"
  obtain ⟨p, q, a, b, c, d, rfl, h1, h2, sa, sb, sc, sd, k⟩ := h
  refine ⟨_, (AD (pst 2 Hl (AV CV (pxi AO (pv 0) AC) (pxi AO (pv 1) AC)))
   (AD (pst 3 Hl (AV CV (pxi AO (pv 1) AC) (pxi AO (pv 0) AC)))
   (AD (AT (ptc Bc (pv 2) (pv 3)) (AE (AG (JJ FC AC)))
    AM)
   (AD (AT (ptc Ec (pv 2) (pv 3)) (AE (AG AC))
    AM)
   (AE (AG AC)))))), ?_⟩
  walk_at "RD"
  walk_at "AUTO"
  unfold LI at k
  by_cases c1 : a * d < c * b
  ·simp only [c1, decide_true, if_true] at k ⊢
   exact k
  ·by_cases c2 : c * b < a * d
   ·simp only [c1, c2, decide_true, decide_false, zk, if_true, if_false] at k ⊢
    exact k
   ·simp only [c1, c2, decide_true, decide_false, zk, if_true, if_false] at k ⊢
    exact k
theorem Bp : AL ["throw", "place", "height_top", "height_bottom", "rise_top", "rise_bottom", "top"] ["throw", "place"] (AF GA) := by walk_at "SC"
noncomputable def JA (K : W.Frag) : Sp := fun vs H Q _ => ∃ (p : Addr) (pl a b c d : Int), vs = [.ref p, .int pl] ∧ SqT K H p [.int a, .int b, .int c, .int d] ∧ 0 < b ∧ 0 < d ∧ Md a ∧ Md b ∧ Md c ∧ Md d ∧ Md pl ∧ ∀ q H' x y, AI H H' → H' q = some (.tup [.int x, .int y]) → Hf (a * d + pl * c * b) (b * d) x y → Q (.ref q) H'
theorem NV (T : Tx K mg) : Aj P w K mg base CX0 3 T.J5 T.Iz ["throw", "place"] (JA K) := by
 refine T.J4.F.ok Bp (fun _ _ _ _ h => by walk_at "LN") ?_
 ·walk_at "I2"
  obtain ⟨p, pl, a, b, c, d, rfl, h1, hb, hd, ma, mb, mc, md, mp, k⟩ := h
  refine ⟨_, (AD (pst 2 Bp (pxi AO (pv 0) AC))
   (AD (pst 3 Bp (pxi AO (pv 0) AC))
   (AD (pst 4 Bp (pxi AO (pv 0) AC))
   (AD (pst 5 Bp (pxi AO (pv 0) AC))
   (AD (pst 6 Bp (AV BA (AV CV (pv 2) (pv 5)) (AV CV (AV CV (pv 1) (pv 4)) (pv 3))))
   (AE (AG (pcl T.Ir (JN T) hr Ag (AA (pv 6) (AA (AV CV (pv 3) (pv 5)) AB)))))))))), ?_⟩
  have sa := ma.sm
  have sb := mb.sm
  have sc := mc.sm
  have sd := md.sm
  have sp := mp.sm
  have s2 := mp.mulS mc
  have s3 := mb.mulS md
  have hne : b * d ≠ 0 := Int.mul_ne_zero (by lia) (by lia)
  walk_at "Q"
  walk_at "RD"
  walk_at "AUTO"
  walk_at "NX"
  walk_at "Q"
  walk_at "RD"
  walk_at "AUTO"
  walk_at "NX"
  walk_at "Q"
  walk_at "RD"
  walk_at "AUTO"
  walk_at "NX"
  walk_at "Q"
  walk_at "RD"
  walk_at "AUTO"
  walk_at "NX"
  walk_at "Q"
  walk_at "RD"
  walk_at "AUTO"
  walk_at "NX"
  delta Gd
  walk_at "AUTO"
  exact fun q H' x y s e L => k q H' x y s e L
theorem DR : AL ["place", "height", "other", "second", "steps", "gain", "start", "rise"] ["place", "height", "other", "second"] (AF Js) := by walk_at "SC"
noncomputable def Ht : Sp := fun vs H Q _ => ∃ p0 h0 p1 h1 : Int, vs = [.int p0, .int h0, .int p1, .int h1] ∧ p0 ≠ p1 ∧ p0.natAbs ≤ 10 ^ 30 ∧ h0.natAbs ≤ 10 ^ 30 ∧ p1.natAbs ≤ 10 ^ 30 ∧ h1.natAbs ≤ 10 ^ 30 ∧
 ∀ q H' x y z v, AI H H' → H' q = some (.tup [.int x, .int y, .int z, .int v]) → Hf (h0 * (p1 - p0) - p0 * (h1 - h0)) (p1 - p0) x y → Hf (h1 - h0) (p1 - p0) z v → Q (.ref q) H'
theorem LB (T : Tx K mg) : Aj P w K mg base CX0 3 T.Mz T.KU ["place", "height", "other", "second"] Ht := by
 refine T.JZ.F.ok DR (fun _ _ _ _ h => by walk_at "LN") ?_
 ·walk_at "I2"
  obtain ⟨p0, h0, p1, h1, rfl, hne, b0, b1, b2, b3, k⟩ := h
  refine ⟨_, (AD (pst 4 DR (AV Bt (pv 2) (pv 0)))
   (AD (pst 5 DR (AV Bt (pv 3) (pv 1)))
   (AD (pst 6 DR (pcl T.Ir (JN T) hr Ag (AA (AV Bt (AV CV (pv 1) (pv 4)) (AV CV (pv 0) (pv 5))) (AA (pv 4) AB))))
   (AD (pst 7 DR (pcl T.Ir (JN T) hr Ag (AA (pv 5) (AA (pv 4) AB))))
   (AE (AG (An (AA (pxi AO (pv 6) AC) (AA (pxi AO (pv 6) AC) (AA (pxi AO (pv 7) AC) (AA (pxi AO (pv 7) AC) AB))))))))))), ?_⟩
  have hs : p1 - p0 ≠ 0 := by lia
  have m1 : Sm (p1 - p0) := Sm.of (n := 10 ^ 31) (by lia) (by decide +kernel)
  have m2 : Sm (h1 - h0) := Sm.of (n := 10 ^ 31) (by lia) (by decide +kernel)
  have m3 : Sm p0 := Sm.of b0 (by decide +kernel)
  have m4 : Sm h0 := Sm.of b1 (by decide +kernel)
  walk_at "Q"
  walk_at "RD"
  walk_at "NX"
  walk_at "Q"
  walk_at "RD"
  walk_at "NX"
  walk_at "Q"
  delta Gd
  walk_at "AUTO"
  intro q1 H1 x y s1 e1 Lw1
  walk_at "NX"
  walk_at "Q"
  delta Gd
  walk_at "AUTO"
  intro q2 H2 z v s2 e2 Lw2
  walk_at "NX"
  walk_at "RD"
  walk_at "AUTO"
  exact k _ _ _ _ _ _ (by walk_at "SAME6") (by assumption) Lw1 Lw2
theorem GW : AL ["throw", "gate", "height", "foot", "head"] ["throw", "gate"] (AF Kn) := by walk_at "SC"
noncomputable def MT (K : W.Frag) : Sp := fun vs H Q _ => ∃ (p g : Addr) (a b c d pl f h : Int), vs = [.ref p, .ref g] ∧ SqT K H p [.int a, .int b, .int c, .int d] ∧ SqT K H g [.int pl, .int f, .int h] ∧ 0 < b ∧ 0 < d ∧ a.natAbs ≤ 10 ^ 15 ∧ b.natAbs ≤ 10 ^ 15 ∧ c.natAbs ≤ 10 ^ 15 ∧ d.natAbs ≤ 10 ^ 15 ∧ pl.natAbs ≤ 10 ^ 15 ∧ f.natAbs ≤ 10 ^ 15 ∧ h.natAbs ≤ 10 ^ 15 ∧ ∀ H', AI H H' → Q (.bl (decide (Pas a b c d pl f h))) H'
theorem MR (T : Tx K mg) : Aj P w K mg base CX0 4 T.OB T.Mi ["throw", "gate"] (MT K) := by
 refine T.Km.F.ok GW (fun _ _ _ _ h => by walk_at "LN") ?_
 ·walk_at "I2"
  obtain ⟨p, g, a, b, c, d, pl, f, h, rfl, hp, hg, hb, hd, b1, b2, b3, b4, b5, b6, b7, k⟩ := h
  refine ⟨_, (AD (pst 2 GW (pcl T.J4 (NV T) hr Ag (AA (pv 0) (AA (pxi AO (pv 1) AC) AB))))
   (AD (pst 3 GW (An (AA (pxi AO (pv 1) AC) (AA AC AB))))
   (AD (pst 4 GW (An (AA (pxi AO (pv 1) AC) (AA AC AB))))
   (AE (AG (CG (pec S7 (pcl T.GV (Hj T) hr Ag (AA (pv 3) (AA (pv 2) AB))) AC) (Bh (pec S7 (pcl T.GV (Hj T) hr Ag (AA (pv 2) (AA (pv 4) AB))) AC)))))))), ?_⟩
  have md : ∀ {i : Int}, i.natAbs ≤ 10 ^ 15 → Md i := fun h => zL h (by decide +kernel)
  walk_at "Q"
  delta JA
  walk_at "AUTO"
  refine ⟨a, b, c, d, hp, hb, hd, md b1, md b2, md b3, md b4, md b5, fun q H1 x y s1 e1 L => ?_⟩
  have bd := CI b2 b4
  have bt1 := CI b1 b4
  have bt2 := CI (CI b5 b3) b2
  have bt : (a * d + pl * c * b).natAbs ≤ 10 ^ 46 := by lia
  have sx : Sm x := Sm.of (zL L.absx bt) (by decide +kernel)
  have sy : Sm y := Sm.of (zL L.absy bd) (by decide +kernel)
  have sf : Sm f := Sm.of b6 (by decide +kernel)
  have sh : Sm h := Sm.of b7 (by decide +kernel)
  have s0 : Sm 1 := by unfold Sm; decide +kernel
  have E := L.eq
  have hy := L.pos
  have hbd : 0 < b * d := Int.mul_pos hb hd
  walk_at "NX"
  walk_at "Q"
  walk_at "RD"
  walk_at "AUTO"
  walk_at "NX"
  walk_at "Q"
  walk_at "RD"
  walk_at "AUTO"
  walk_at "NX"
  delta HZ
  walk_at "AUTO"
  refine ⟨f, 1, (by walk_at "SQT4"), x, y, (by walk_at "SQT4"), sf, s0, sx, sy, ?_⟩
  have c1 : (LI (f * y) (x * 1) ≤ 0) ↔ f * (b * d) ≤ a * d + pl * c * b := by
   rw [Int.mul_one]
   have e : LI (f * y) x ≤ 0 ↔ f * y ≤ x := by unfold LI; split <;> (try split) <;> lia
   rw [e]
   generalize a * d + pl * c * b = t at *
   generalize b * d = u at *
   exact Rz hy hbd E
  have c2 : (LI (x * 1) (h * y) ≤ 0) ↔ a * d + pl * c * b ≤ h * (b * d) := by
   rw [Int.mul_one]
   have e : LI x (h * y) ≤ 0 ↔ x ≤ h * y := by unfold LI; split <;> (try split) <;> lia
   rw [e]
   generalize a * d + pl * c * b = t at *
   generalize b * d = u at *
   exact Sd hy hbd E
  by_cases g1 : f * (b * d) ≤ a * d + pl * c * b
  ·rw [if_pos (z5 (c1.mpr g1))]
   refine ⟨x, y, (by walk_at "SQT4"), h, 1, (by walk_at "SQT4"), sx, sy, sh, s0, ?_⟩
   have e : decide (LI (x * 1) (h * y) ≤ 0) = decide (Pas a b c d pl f h) := by
    unfold Pas
    simp only [c2, g1, true_and]
   rw [e]
   exact k _ (by walk_at "SAME5")
  ·rw [if_neg (by simp only [decide_eq_true_eq]; exact fun z => g1 (c1.mp z))]
   have e : decide (Pas a b c d pl f h) = false := by
    unfold Pas
    simp only [g1, false_and, decide_false]
   rw [e] at k
   exact k _ (by walk_at "SAME5")
theorem Lp : AL ["throw", "gates"] ["throw", "gates"] (AF Ej) := by walk_at "SC"
noncomputable def HC (K : W.Frag) : Sp := fun vs H Q _ => ∃ (q l : Addr) (t : Thr) (as : List Addr) (gs : List G), vs = [.ref q, .ref l] ∧ SqT K H q t.vs ∧ SqL K H l (as.map V.ref) ∧ Aq H as gs ∧ OkT t ∧ gs.length ≤ 1000 ∧ (∀ g ∈ gs, OkG g) ∧ ∀ H', AI H H' → Q (.bl (decide (∀ g ∈ gs, t.pas g))) H'
theorem Lm (T : Tx K mg) : Aj P w K mg base CX0 5 T.IM T.G7 ["throw", "gates"] (HC K) := by
 refine T.Iq.F.ok Lp (fun _ _ _ _ h => by walk_at "LN") ?_
 ·walk_at "I2"
  obtain ⟨q, l, t, as, gs, rfl, hq, hl, ga, ot, hz, ok, k⟩ := h
  refine ⟨_, (AE (AG (AK (N2 (by rfl)) (by rfl) T.TB Rh (AA (Ib rfl (⟨rfl, by decide +kernel, by decide +kernel, by decide +kernel, rfl, by decide +kernel, by with_unfolding_all rfl, by rfl, by rfl, by rfl⟩ : A8 _ _ "gate" ["throw"] [0]) (Cd (pv 1)) (fun _ _ _ _  => (pcl T.Km (MR T) hr Ag (AA (pv 1) (AA (pv 0) AB)))) (fun _ _ _ _ => Gb)) AB)))), ?_⟩
  delta J8
  walk_at "AUTO"
  intro D nD
  refine MZ (F := fun _ v g => v = V.bl (decide (t.pas g))) (fun _ _ _ _ _ h => h) (fun _ _ _ _ _ _ h => h) hl ga nD hz ?_ ?_
  ·intro v g H1 R hg s1 ev hR
   obtain ⟨p1, p2, p3, p4, p5⟩ := ok g hg
   delta qB
   walk_at "AUTO"
   unfold MT
   refine ⟨_, _, t.a, t.b, t.c, t.d, g.p, g.f, g.h, rfl, s1.tup hq, SqT.of ev, ot.b0, ot.d0, zL ot.a1 (by decide), zL ot.b1 (by decide), zL ot.c1 (by decide), zL ot.d1 (by decide), by lia, by lia, by lia, fun H2 s2 => hR _ _ s2 rfl⟩
  ·intro H1 ys s1 e1 pr
   have ey := Paired.eq_map pr
   subst ey
   refine ⟨gs.map fun g => decide (t.pas g), SqL.of (by rw [e1, zw]; rfl), ?_⟩
   have e : (gs.map fun g => decide (t.pas g)).all id = decide (∀ g ∈ gs, t.pas g) := by
    rw [qD]
    simp
   rw [e]
   exact k _ s1
theorem Jp : AL ["throw", "ordered"] ["throw", "ordered"] (AF Cm) := by walk_at "SC"
noncomputable def Jh (K : W.Frag) : Sp := fun vs H Q _ => ∃ (q l : Addr) (a b c d : Int) (as : List Addr) (gs : List G), vs = [.ref q, .ref l] ∧ H q = some (.tup [.int a, .int b, .int c, .int d]) ∧ ¬ QV a b c d ∧ SqL K H l (as.map V.ref) ∧ Aq H as gs ∧ gs.length ≤ 40 ∧ (∀ g ∈ gs, OkG g) ∧ ∀ D H', H D = none → AI H H' → H' D = some (.lst ((Ab (gs.filter (SF a b c d))).map V.int)) → Q (.ref D) H'
theorem EV (T : Tx K mg) : Aj P w K mg base CX0 5 T.FE T.Eg ["throw", "ordered"] (Jh K) := by
 refine T.Ch.F.ok Jp (fun _ _ _ _ h => by walk_at "LN") ?_
 ·walk_at "I2"
  obtain ⟨q, l, a, b, c, d, as, gs, rfl, hq, nb, hl, ga, l40, ok, k⟩ := h
  refine ⟨_, (AE (AG (Ib rfl (⟨rfl, by decide +kernel, by decide +kernel, by decide +kernel, rfl, by decide +kernel, by with_unfolding_all rfl, by rfl, by rfl, by rfl⟩ : A8 _ _ "gate" ["throw"] [0]) (Cd (pv 1)) (fun _ _ _ _  => (pxi (NB (K := K) rfl) (pv 0) AC)) (fun _ _ _ _ => (PB (Ju (pcl T.Km (MR T) hr Ag (AA (pv 1) (AA (pv 0) AB))))))))), ?_⟩
  have h1 : ¬ b < 1 := fun z => nb (.inl z)
  have h2 : ¬ d < 1 := fun z => nb (.inr (.inl z))
  have h3 : ∀ x ∈ [a, b, c, d], x.natAbs ≤ 10 ^ 15 := fun x hx => by
   have h4 : ¬ x < -999999999 := fun z => nb (.inr (.inr ⟨x, hx, .inl z⟩))
   have h5 : ¬ 999999999 < x := fun z => nb (.inr (.inr ⟨x, hx, .inr z⟩))
   lia
  delta J8
  refine ⟨⟨_, hl⟩, fun D nD => ?_⟩
  refine NJ (SF a b c d) (fun g => V.int g.p) hl ga nD (by lia) (fun v g H1 R hg s1 ev hR => ?_) (fun v g H1 R hg s1 ev hR => ?_) fun H1 s1 e1 => ?_
  ·have og := ok g hg
   have o1 := og.p0
   have o2 := og.p1
   have o3 := og.f0
   have o4 := og.fh
   have o5 := og.h1
   delta qB
   refine ⟨q, v, a, b, c, d, g.p, g.f, g.h, rfl, SqT.of (s1.get hq), SqT.of ev, by lia, by lia, h3 a (by simp), h3 b (by simp), h3 c (by simp), h3 d (by simp), by lia, by lia, by lia, fun H2 s2 => ⟨_, rfl, hR H2 s2⟩⟩
  ·delta qB
   exact ⟨_, SqT.of ev, _, rfl, hR⟩
  ·exact k D H1 nD s1 (by rw [e1, zw]; rfl)
theorem KH : AL ["earlier", "later"] ["earlier", "later"] (AF DV) := by walk_at "SC"
noncomputable def FT (K : W.Frag) : Sp := fun vs H Q _ => ∃ (a b : Addr) (x y : G), vs = [.ref a, .ref b] ∧ SqT K H a (G.vs x) ∧ SqT K H b (G.vs y) ∧ OkG x ∧ OkG y ∧ ∀ D H', AI H H' → H' D = some (.tup [.int (y.h - x.f), .int (y.p - x.p)]) → Q (.ref D) H'
theorem FM (T : Tx K mg) : Aj P w K mg base CX0 1 T.F5 T.FY ["earlier", "later"] (FT K) := by
 refine T.DS.F.ok KH (fun _ _ _ _ h => by walk_at "LN") ?_
 ·walk_at "I2"
  obtain ⟨a, b, x, y, rfl, ha, hb, o1, o2, k⟩ := h
  refine ⟨_, (AE (AG (An (AA (AV Bt (pxi AO (pv 1) AC) (pxi AO (pv 0) AC)) (AA (AV Bt (pxi AO (pv 1) AC) (pxi AO (pv 0) AC)) AB))))), ?_⟩
  obtain ⟨p1, p2, p3, p4, p5⟩ := id o1
  obtain ⟨q1, q2, q3, q4, q5⟩ := id o2
  walk_at "RD"
  walk_at "AUTO"
  exact k _ _ hs he
theorem BE : AL ["ordered", "pair", "index", "earlier", "later"] ["ordered"] (AF Cq) := by walk_at "SC"
structure Jb (H : Hp) (D : Addr) (gs : List G) (ax ay : Addr) (x y : G) : Prop where
 eD : H D = some (.tup [.ref ax, .ref ay])
 ex : H ax = some (.tup (G.vs x))
 ey : H ay = some (.tup (G.vs y))
 hx : x ∈ gs
 hy : y ∈ gs
 lt : x.p < y.p
theorem Jb.same {H H' : Hp} {D : Addr} {gs : List G} {ax ay : Addr} {x y : G} (h : Jb H D gs ax ay x y) (s : AI H H') : Jb H' D gs ax ay x y := ⟨s.get h.eD, s.get h.ex, s.get h.ey, h.hx, h.hy, h.lt⟩
noncomputable def EK (K : W.Frag) : Sp := fun vs H Q _ => ∃ (l : Addr) (as : List Addr) (gs : List G), vs = [.ref l] ∧ SqL K H l (as.map V.ref) ∧ Aq H as gs ∧ Asc gs ∧ 2 ≤ gs.length ∧ gs.length ≤ 1000 ∧ (∀ g ∈ gs, OkG g) ∧ ∀ D H' ax ay x y, AI H H' → Jb H' D gs ax ay x y → (∀ x' ∈ gs, ∀ y' ∈ gs, x'.p < y'.p → LeR x y x' y') → Q (.ref D) H'
noncomputable def S1 (gs : List G) (x y : G) (i j : Nat) : Prop := ∀ i' j' u v, i' < j' → gs[i']? = some u → gs[j']? = some v → (i' < i ∨ (i' = i ∧ j' < j)) → LeR x y u v
noncomputable def Wt1 (l : Addr) (gs : List G) (H : Hp) : Nat → St → Hp → Prop := fun i σ H' => ∃ D ax ay x y o1 o2 o3, σ = [some (.ref l), some (.ref D), o1, o2, o3] ∧ AI H H' ∧ Jb H' D gs ax ay x y ∧ S1 gs x y i 0
noncomputable def Wt2 (l ea : Addr) (gs : List G) (H : Hp) (i : Nat) : Nat → St → Hp → Prop := fun j σ H' => ∃ D ax ay x y o3, σ = [some (.ref l), some (.ref D), some (.int (i : Int)), some (.ref ea), o3] ∧ AI H H' ∧ Jb H' D gs ax ay x y ∧ S1 gs x y i (i + 1 + j)
theorem Jm (T : Tx K mg) : Aj P w K mg base CX0 2 T.FL T.Eb ["ordered"] (EK K) := by
 refine T.Fd.F.ok BE (fun _ _ _ _ h => by walk_at "LN") ?_
 ·walk_at "I2"
  obtain ⟨l, as, gs, rfl, hl, ga, ha, l2, hz, ok, k⟩ := h
  refine ⟨_, (AD (pst 1 BE (An (AA (pxi Bj (pv 0) AC) (AA (pxi Bj (pv 0) AC) AB))))
   (AD (Cr PassesOwn.never rfl (PL (by rfl) T.J7 (AA (pv 0) AB)) (Qr (n := 2) rfl (IF (pgn 2 BE) (IF (pgn 3 BE) Pa)))
    (AE (Cr PassesOwn.never rfl (Cd (GI IK (pv 0) (JD (AV BA (pv 2) AC)) Hy)) (pgn 4 BE)
      (AE (AT (ptc Bc (pcl T.GV (Hj T) hr Ag (AA (pcl T.DS (FM T) hr Ag (AA (pv 3) (AA (pv 4) AB))) (AA (pcl T.DS (FM T) hr Ag (AA (pxi AO (pv 1) AC) (AA (pxi AO (pv 1) AC) AB))) AB))) AC) (AE (pst 1 BE (An (AA (pv 3) (AA (pv 4) AB)))))
        AM)))))
   (AE (AG (pv 1))))), ?_⟩
  have la := ga.len
  have h0 : 0 < gs.length := by lia
  have h1 : 1 < gs.length := by lia
  obtain ⟨a0, f0, e0⟩ := ga.get (z0 h0)
  obtain ⟨a1, f1, e1⟩ := ga.get (z0 h1)
  have i0 : atI (as.map V.ref) 0 = some (V.ref a0) := DO (i := 0) f0
  have i1 : atI (as.map V.ref) 1 = some (V.ref a1) := DO (i := 1) f1
  walk_at "RD"
  walk_at "AUTO"
  refine ⟨_, rfl, l, rfl, ⟨_, hs.seq hl⟩, OJ (xs := as.map V.ref) (Wt1 l gs H') ⟨p, a0, a1, gs[0], gs[1], none, none, none, rfl, AI.refl _, ⟨he, hs.get e0, hs.get e1, zR h0, zR h1, DN ha (z0 h0) (z0 h1) (by lia)⟩, fun i' j' u v _ _ _ hh => by lia⟩ (fun i σ H1 _ ⟨_, _, _, _, _, _, _, _, _, s1, _, _⟩ => (hs.trans s1).seq hl) ?_ ?_⟩
  ·rintro i vv σ H1 pp H2 hx ⟨D, ax, ay, x, y, o1, o2, o3, rfl, s1, pa, le⟩ hn s2 e2
   have hi : i < gs.length := by
    have := (z8.mp hx).1
    rw [z6] at this
    lia
   obtain ⟨ea, fe, ee⟩ := ga.get (z0 hi)
   have ex : vv = V.ref ea := by
    rw [zG, fe] at hx
    exact (zI hx).symm
   subst ex
   have s02 := hs.trans (s1.trans s2)
   have gu := z0 hi
   generalize hu0 : gs[i] = u at ee gu
   have ou := ok u (zT gu)
   delta KI Fa KG
   refine ⟨_, SqT.of e2, rfl, _, _, rfl, _, _, rfl, rfl, ?_⟩
   refine ⟨_, rfl, _, rfl, _, _, rfl, rfl, _, rfl, l, rfl, _, s02.seq hl, fun S H3 nS s3 eS => ?_⟩
   rw [show (i : Int) + 1 = ((i + 1 : Nat) : Int) by lia, Mx, ← List.map_drop] at eS
   have s03 := s02.trans s3
   refine ⟨S, rfl, ⟨_, SqL.of eS⟩, LQ (xs := (as.drop (i + 1)).map V.ref) (Wt2 l ea gs H3 i) ⟨D, ax, ay, x, y, o3, rfl, AI.refl _, (pa.same s2).same s3, fun i' j' u' v' h1 h2 h3 h4 => le i' j' u' v' h1 h2 h3 (by lia)⟩ (fun j σ H4 _ ⟨_, _, _, _, _, _, _, s4, _, _⟩ => SqL.of (s4.get eS)) ?_ ?_⟩
   ·rintro j vv σ H4 hx ⟨D, ax, ay, x, y, o3, rfl, s4, pa, le⟩
    have hj : i + 1 + j < gs.length := by
     have := (z8.mp hx).1
     rw [z6, zh] at this
     lia
    obtain ⟨la', fl, el⟩ := ga.get (z0 hj)
    have ex : vv = V.ref la' := by
     rw [zG, List.getElem?_drop, fl] at hx
     exact (zI hx).symm
    subst ex
    have s04 := s03.trans s4
    have gv := z0 hj
    generalize hv0 : gs[i + 1 + j] = v at el gv
    have ov := ok v (zT gv)
    have eu4 := s04.get ee
    have ev4 := s04.get el
    have ex4 := pa.ex
    have ey4 := pa.ey
    have eD4 := pa.eD
    have luv := DN ha gu gv (by lia)
    have lxy := pa.lt
    have ox := ok x pa.hx
    have oy := ok y pa.hy
    walk_at "RD"
    walk_at "AUTO"
    unfold FT HZ
    refine ⟨_, _, u, v, rfl, SqT.of eu4, SqT.of ev4, ou, ov, fun D1 H5 s5 e5 => ?_⟩
    walk_at "AUTO"
    refine ⟨_, _, x, y, rfl, (by walk_at "SQT4"), (by walk_at "SQT4"), ox, oy, fun D2 H6 s6 e6 => ?_⟩
    obtain ⟨p1, p2, p3, p4, p5⟩ := id ou
    obtain ⟨q1, q2, q3, q4, q5⟩ := id ov
    obtain ⟨r1, r2, r3, r4, r5⟩ := id ox
    obtain ⟨t1, t2, t3, t4, t5⟩ := id oy
    have w1 : Sm (v.h - u.f) := Sm.of (n := 10 ^ 10) (by lia) (by decide +kernel)
    have w2 : Sm (v.p - u.p) := Sm.of (n := 10 ^ 10) (by lia) (by decide +kernel)
    have w3 : Sm (y.h - x.f) := Sm.of (n := 10 ^ 10) (by lia) (by decide +kernel)
    have w4 : Sm (y.p - x.p) := Sm.of (n := 10 ^ 10) (by lia) (by decide +kernel)
    refine ⟨_, _, _, _, _, _, rfl, SqT.of (s6.get e5), SqT.of e6, w1, w2, w3, w4, ?_⟩
    have ec : LI ((v.h - u.f) * (y.p - x.p)) ((y.h - x.f) * (v.p - u.p)) < 0 ↔ ¬ LeR x y u v := by
     unfold LI LeR
     rw [Int.not_le]
     split <;> (try split) <;> lia
    have s46 := s5.trans s6
    refine ⟨_, rfl, ?_⟩
    by_cases hb : LeR x y u v
    ·rw [if_neg (fun z => ec.mp (z4 z) hb)]
     refine ⟨D, ax, ay, x, y, _, rfl, s4.trans s46, pa.same s46, fun i' j' u' v' h1 h2 h3 h4 => ?_⟩
     rcases (by lia : (i' < i ∨ (i' = i ∧ j' < i + 1 + j)) ∨ (i' = i ∧ j' = i + 1 + j)) with z | ⟨rfl, rfl⟩
     ·exact le i' j' u' v' h1 h2 h3 z
     ·cases gu.symm.trans h2
      cases gv.symm.trans h3
      exact hb
    ·rw [if_pos (z5 (ec.mpr hb))]
     walk_at "AUTO"
     have lt' : LeR u v x y := by
      unfold LeR at hb ⊢
      rw [Int.not_le] at hb
      exact zx hb
     refine ⟨p, ea, la', u, v, _, rfl, s4.trans (s46.trans hs), ⟨he, hs.get (s46.get eu4), hs.get (s46.get ev4), zT gu, zT gv, luv⟩, fun i' j' u' v' h1 h2 h3 h4 => ?_⟩
     rcases (by lia : (i' < i ∨ (i' = i ∧ j' < i + 1 + j)) ∨ (i' = i ∧ j' = i + 1 + j)) with z | ⟨rfl, rfl⟩
     ·exact LeR.trans luv lxy (DN ha h2 h3 h1) lt' (le i' j' u' v' h1 h2 h3 z)
     ·cases gu.symm.trans h2
      cases gv.symm.trans h3
      exact LeR.refl u v
   ·rintro σ H4 ⟨D, ax, ay, x, y, o3, rfl, s4, pa, le⟩
    refine ⟨D, ax, ay, x, y, _, _, _, rfl, s1.trans (s2.trans (s3.trans s4)), pa, fun i' j' u' v' h1 h2 h3 h4 => ?_⟩
    have hj' := (z8.mp h3).1
    rw [z6, zh] at le
    exact le i' j' u' v' h1 h2 h3 (by lia)
  ·rintro σ H1 ⟨D, ax, ay, x, y, o1, o2, o3, rfl, s1, pa, le⟩
   rw [z6] at le
   walk_at "RD"
   refine k D H1 ax ay x y (hs.trans s1) pa fun x' hx' y' hy' lt' => ?_
   obtain ⟨i', hi', rfl⟩ := List.getElem_of_mem hx'
   obtain ⟨j', hj', rfl⟩ := List.getElem_of_mem hy'
   have q1 := z0 hi'
   have q2 := z0 hj'
   exact le i' j' _ _ (GU ha q1 q2 lt') q1 q2 (by lia)
theorem BI : AL ["ordered", "pair", "foot_place", "head_place", "throw"] ["ordered"] (AF CK) := by walk_at "SC"
noncomputable def Bb (K : W.Frag) : Sp := fun vs H Q _ => ∃ (l : Addr) (as : List Addr) (gs : List G), vs = [.ref l] ∧ SqL K H l (as.map V.ref) ∧ Aq H as gs ∧ Asc gs ∧ 2 ≤ gs.length ∧ gs.length ≤ 1000 ∧ (∀ g ∈ gs, OkG g) ∧ (∀ H', AI H H' → ¬ EC gs → Q .non H') ∧ ∀ D H' q t x y, AI H H' → SG H' D gs q t x y → Q (.ref D) H'
theorem B7 (T : Tx K mg) : Aj P w K mg base CX0 6 T.Ei T.Dl ["ordered"] (Bb K) := by
 refine T.Bn.F.ok BI (fun _ _ _ _ h => by walk_at "LN") ?_
 ·walk_at "I2"
  obtain ⟨l, as, gs, rfl, hl, ga, ha, l2, hz, ok, kn, k⟩ := h
  refine ⟨_, (AD (pst 1 BI (pcl T.Fd (Jm T) hr Ag (AA (pv 0) AB)))
   (AD (pst 2 BI (pxi AO (pxi AO (pv 1) AC) AC))
   (AD (pst 3 BI (pxi AO (pxi AO (pv 1) AC) AC))
   (AD (pst 4 BI (pcl T.JZ (LB T) hr Ag (AA (pv 2) (AA (pxi AO (pxi AO (pv 1) AC) AC) (AA (pv 3) (AA (pxi AO (pxi AO (pv 1) AC) AC) AB))))))
   (AD (AT (Q3 (Ju (pcl T.Iq (Lm T) hr Ag (AA (pv 4) (AA (pv 0) AB))))) (AE (AG Hd))
    AM)
   (AE (AG (An (AA (pv 4) (AA (pv 2) (AA (pv 3) AB))))))))))), ?_⟩
  walk_at "RD"
  walk_at "AUTO"
  unfold EK
  refine ⟨_, as, gs, rfl, hl, ga, ha, l2, hz, ok, fun D H1 ax ay x y s1 pa le => ?_⟩
  have eD := pa.eD
  have ex := pa.ex
  have ey := pa.ey
  have lxy := pa.lt
  have ox := ok x pa.hx
  have oy := ok y pa.hy
  obtain ⟨r1, r2, r3, r4, r5⟩ := id ox
  obtain ⟨t1, t2, t3, t4, t5⟩ := id oy
  walk_at "AUTO"
  unfold Ht
  refine ⟨x.p, x.f, y.p, y.h, rfl, by lia, by lia, by lia, by lia, by lia, fun q H2 a b c d s2 e2 L1 L2 => ?_⟩
  have lo := Nj lxy L1 L2
  have ot := PY (by lia) (by lia) (by lia) (by lia) L1 L2
  walk_at "AUTO"
  unfold HC
  refine ⟨_, _, ⟨a, b, c, d⟩, as, gs, rfl, SqT.of e2, (s1.trans s2).seq hl, ga.same (s1.trans s2), ot, hz, ok, fun H3 s3 => ?_⟩
  by_cases hb : ∀ g ∈ gs, (⟨a, b, c, d⟩ : Thr).pas g
  ·rw [z5 hb]
   have e3 := s3.get e2
   walk_at "AUTO"
   exact k _ _ q ⟨a, b, c, d⟩ x y (s1.trans (s2.trans (s3.trans hs))) ⟨he, hs.get e3, ot, hb, pa.hx, pa.hy, lxy, lo.2.1, lo.2.2⟩
  ·rw [zV hb]
   walk_at "AUTO"
   exact kn _ (s1.trans (s2.trans s3)) (Ho ha ok pa.hx pa.hy lxy le fun z => hb fun g hg => (lo.1 g).mpr (z g hg))
theorem Ka : AL ["height"] ["height"] (AF EB) := by walk_at "SC"
noncomputable def DK : Sp := fun vs H Q _ => ∃ h : Int, vs = [.int h] ∧ ∀ D H', AI H H' → H' D = some (.tup [.int h, .int 1, .int 0, .int 1]) → Q (.ref D) H'
theorem Nw {h : Int} (b : h.natAbs ≤ 1000) : OkT ⟨h, 1, 0, 1⟩ := ⟨by show h.natAbs ≤ _; lia, by show (1 : Int).natAbs ≤ _; decide, by show (0 : Int).natAbs ≤ _; decide, by show (1 : Int).natAbs ≤ _; decide, by show (0 : Int) < 1; decide, by show (0 : Int) < 1; decide, by show Int.gcd h 1 = 1; simp, by show Int.gcd 0 1 = 1; decide⟩
theorem QO {g : G} (o : OkG g) : (⟨g.f, 1, 0, 1⟩ : Thr).pas g := by
 obtain ⟨_, _, _, h, _⟩ := o
 show Pas g.f 1 0 1 g.p g.f g.h
 unfold Pas
 constructor <;> simp <;> lia
theorem Fy (T : Tx K mg) : Aj P w K mg base CX0 1 T.HR T.F1 ["height"] DK := by
 refine T.Dz.F.ok Ka (fun _ _ _ _ h => by walk_at "LN") ?_
 ·walk_at "I2"
  obtain ⟨h, rfl, k⟩ := h
  refine ⟨_, (AE (AG (An (AA (pv 0) (AA AC (AA AC (AA AC AB))))))), ?_⟩
  walk_at "RD"
  walk_at "AUTO"
  exact k _ _ hs he
theorem FH : AL ["ordered", "found"] ["ordered"] (AF DY) := by walk_at "SC"
noncomputable def FO (K : W.Frag) : Sp := fun vs H Q _ => ∃ (l : Addr) (as : List Addr) (gs : List G), vs = [.ref l] ∧ SqL K H l (as.map V.ref) ∧ Aq H as gs ∧ Asc gs ∧ gs.length ≤ 1000 ∧ (∀ g ∈ gs, OkG g) ∧ (∀ H', AI H H' → ¬ EC gs → Q .non H') ∧ ∀ D H' t, AI H H' → H' D = some (.tup t.vs) → OkT t → (∀ g ∈ gs, t.pas g) → Q (.ref D) H'
theorem Ff (T : Tx K mg) : Aj P w K mg base CX0 7 T.GK T.Fe ["ordered"] (FO K) := by
 refine T.DL.F.ok FH (fun _ _ _ _ h => by walk_at "LN") ?_
 ·walk_at "I2"
  obtain ⟨l, as, gs, rfl, hl, ga, ha, hz, ok, kn, k⟩ := h
  refine ⟨_, (AD (AT (ptc Az (AK AZ (by rfl) T.Bv BP (AA (pv 0) AB)) AC) (AE (AG (pcl T.Dz (Fy T) hr Ag (AA AC AB))))
    AM)
   (AD (AT (ptc Az (AK AZ (by rfl) T.Bv BP (AA (pv 0) AB)) AC) (AE (AG (pcl T.Dz (Fy T) hr Ag (AA (pxi AO (pxi Bj (pv 0) AC) AC) AB))))
    AM)
   (AD (pst 1 FH (pcl T.Bn (B7 T) hr Ag (AA (pv 0) AB)))
   (AD (AT (ptc NS (pv 1) Hd) (AE (AG Hd))
    AM)
   (AE (AG (pxi AO (pv 1) AC))))))), ?_⟩
  have la := ga.len
  walk_at "RD"
  walk_at "AUTO"
  rw [z6, la]
  by_cases c0 : gs.length = 0
  ·have eg := List.eq_nil_of_length_eq_zero c0
   rw [if_pos (z5 (by lia))]
   unfold DK
   refine ⟨0, rfl, fun D H1 s1 e1 => k D H1 ⟨0, 1, 0, 1⟩ s1 e1 (Nw (by decide)) fun g hg => ?_⟩
   rw [eg] at hg
   exact absurd hg (by simp)
  rw [if_neg (fun z => c0 (by have := z4 z; lia))]
  walk_at "AUTO"
  rw [z6, la]
  by_cases c1 : gs.length = 1
  ·rw [if_pos (z5 (by lia))]
   match gs, ga, c1, ok, k with
   | [g], ga, _, ok, k =>
    obtain ⟨a0, f0, e0⟩ := ga.get (i := 0) (g := g) rfl
    have i0 : atI (as.map V.ref) 0 = some (V.ref a0) := DO (i := 0) f0
    have og := ok g (by simp)
    obtain ⟨q1, q2, q3, q4, q5⟩ := id og
    walk_at "AUTO"
    unfold DK
    refine ⟨g.f, rfl, fun D H1 s1 e1 => k D H1 ⟨g.f, 1, 0, 1⟩ s1 e1 (Nw (by lia)) fun g' hg => ?_⟩
    rw [zD.mp hg]
    exact QO og
  rw [if_neg (fun z => c1 (by have := z4 z; lia))]
  walk_at "AUTO"
  unfold Bb
  refine ⟨_, as, gs, rfl, hl, ga, ha, by lia, hz, ok, fun H1 s1 nb => ?_, fun D H1 q t x y s1 fa => ?_⟩
  ·walk_at "AUTO"
   exact kn _ s1 nb
  ·have eD := fa.eD
   walk_at "AUTO"
   exact k q H1 t s1 fa.eq fa.ok fa.all
theorem Nf : AL ["gates"] ["gates"] (AF Hq) := by walk_at "SC"
noncomputable def Dp (K : W.Frag) : Sp := fun vs H Q _ => ∃ (l : Addr) (as : List Addr) (gs sg : List G), vs = [.ref l] ∧ SqL K H l (as.map V.ref) ∧ Aq H as gs ∧ (gs.map G.p).Nodup ∧ gs.length ≤ 40 ∧ (∀ g ∈ gs, OkG g) ∧ sg.Perm gs ∧ Asc sg ∧ ¬ EC sg ∧ ∀ D H', AI H H' → Rr H' D gs → Q (.ref D) H'
theorem GB (T : Tx K mg) : Aj P w K mg base CX0 4 T.LD T.J0 ["gates"] (Dp K) := by
 refine T.E1.F.ok Nf (fun _ _ _ _ h => by walk_at "LN") ?_
 ·walk_at "I2"
  obtain ⟨l, as, gs, sg, rfl, hl, ga, nd, h40, ok, hp, ha, nb, k⟩ := h
  refine ⟨_, (AE (AG (An (AA Ar (AA (pcl T.HN (La T) hr Ag (AA (pv 0) AB)) AB))))), ?_⟩
  walk_at "RD"
  walk_at "AUTO"
  unfold F7
  refine ⟨_, as, gs, rfl, hl, ga, nd, h40, ok, fun H1 s1 hf => absurd rfl (M6 hp ha nb hf), fun D H1 t s1 e1 ne hf => ?_⟩
  walk_at "AUTO"
  exact k _ _ (s1.trans hs) ⟨D, t, he, hs.get e1, ne, hf⟩
theorem EL : AL ["gates", "throw"] ["gates"] (AF Ct) := by walk_at "SC"
noncomputable def Jk (K : W.Frag) : Sp := fun vs H Q _ => ∃ (l : Addr) (as : List Addr) (gs : List G), vs = [.ref l] ∧ SqL K H l (as.map V.ref) ∧ Aq H as gs ∧ (gs.map G.p).Nodup ∧ gs.length ≤ 40 ∧ gs ≠ [] ∧ (∀ g ∈ gs, OkG g) ∧ ∀ D H', AI H H' → ML H' D gs → Q (.ref D) H'
theorem JQ (T : Tx K mg) : Aj P w K mg base CX0 8 T.FJ T.EW ["gates"] (Jk K) := by
 refine T.FV.F.ok EL (fun _ _ _ _ h => by walk_at "LN") ?_
 ·walk_at "I2"
  obtain ⟨l, as, gs, rfl, hl, ga, nd, h40, hne, ok, k⟩ := h
  refine ⟨_, (AD (pst 1 EL (pcl T.DL (Ff T) hr Ag (AA (AK Bq (by rfl) T.EH DF (AA (pv 0) AB)) AB)))
   (AD (AT (ptc NS (pv 1) Hd) (AE (AG (pcl T.E1 (GB T) hr Ag (AA (pv 0) AB))))
    AM)
   (AE (AG (An (AA Ar (AA (pv 1) AB))))))), ?_⟩
  walk_at "RD"
  walk_at "AUTO"
  intro D1 H1 as1 sg nD s1 e1 ga1 hp ha
  have lg := hp.length_eq
  have ok1 : ∀ g ∈ sg, OkG g := fun g hg => ok g (hp.mem_iff.mp hg)
  unfold FO
  refine ⟨_, as1, sg, rfl, SqL.of e1, ga1, ha, by lia, ok1, fun H2 s2 nb => ?_, fun q H2 t s2 e2 ot all => ?_⟩
  ·walk_at "AUTO"
   unfold Dp
   exact ⟨_, as, gs, sg, rfl, (s1.trans s2).seq hl, ga.same (s1.trans s2), nd, h40, ok, hp, ha, nb, fun D H3 s3 b => k D H3 (s1.trans (s2.trans s3)) (.bar b)⟩
  ·walk_at "AUTO"
   exact k _ _ (s1.trans (s2.trans hs)) (.throw q t he (hs.get e2) ot fun g hg => all g (hp.mem_iff.mpr hg))
theorem Dh : AL ["gates", "found"] ["gates"] (AF CP) := by walk_at "SC"
noncomputable def Iy (K : W.Frag) : Sp := fun vs H Q _ => ∃ (l : Addr) (as : List Addr) (gs : List G), vs = [.ref l] ∧ SqL K H l (as.map V.ref) ∧ Aq H as gs ∧ (gs.map G.p).Nodup ∧ 2 ≤ gs.length ∧ gs.length ≤ 40 ∧ (∀ g ∈ gs, OkG g) ∧ ∀ D H', AI H H' → Na true H' D gs → Q (.ref D) H'
theorem IT (T : Tx K mg) : Aj P w K mg base CX0 7 T.Ed T.Dq ["gates"] (Iy K) := by
 refine T.ED.F.ok Dh (fun _ _ _ _ h => by walk_at "LN") ?_
 ·walk_at "I2"
  obtain ⟨l, as, gs, rfl, hl, ga, nd, l2, h40, ok, k⟩ := h
  refine ⟨_, (AD (pst 1 Dh (pcl T.Bn (B7 T) hr Ag (AA (AK Bq (by rfl) T.EH DF (AA (pv 0) AB)) AB)))
   (AD (AT (ptc NS (pv 1) Hd) (AE (AG (pcl T.E1 (GB T) hr Ag (AA (pv 0) AB))))
    AM)
   (AE (AG (An (AA Ar (AA (pxi AO (pv 1) AC) (AA (pxi AO (pv 1) AC) (AA (pxi AO (pv 1) AC) AB))))))))), ?_⟩
  walk_at "RD"
  walk_at "AUTO"
  intro D1 H1 as1 sg nD s1 e1 ga1 hp ha
  have lg := hp.length_eq
  have ok1 : ∀ g ∈ sg, OkG g := fun g hg => ok g (hp.mem_iff.mp hg)
  unfold Bb
  refine ⟨_, as1, sg, rfl, SqL.of e1, ga1, ha, by lia, by lia, ok1, fun H2 s2 nb => ?_, fun D H2 q t x y s2 fa => ?_⟩
  ·walk_at "AUTO"
   unfold Dp
   exact ⟨_, as, gs, sg, rfl, (s1.trans s2).seq hl, ga.same (s1.trans s2), nd, h40, ok, hp, ha, nb, fun D H3 s3 b => k D H3 (s1.trans (s2.trans s3)) (.bar b)⟩
  ·have eD := fa.eD
   walk_at "AUTO"
   exact k _ _ (s1.trans (s2.trans hs)) (.throw q t x y he (hs.get fa.eq) fa.ok (fun g hg => fa.all g (hp.mem_iff.mpr hg)) (hp.mem_iff.mp fa.hx) (hp.mem_iff.mp fa.hy) fa.lt fa.tx fa.ty)
theorem LP : AL ["gate"] ["gate"] (AF D4) := by walk_at "SC"
noncomputable def GO (K : W.Frag) : Sp := fun vs H Q _ => ∃ (a : Addr) (g : G), vs = [.ref a] ∧ SqT K H a (G.vs g) ∧ ∀ D H', AI H H' → H' D = some (.tup (G.vs (CD g))) → Q (.ref D) H'
theorem Lc (T : Tx K mg) : Aj P w K mg base CX0 1 T.HE T.Fi ["gate"] (GO K) := by
 refine T.G9.F.ok LP (fun _ _ _ _ h => by walk_at "LN") ?_
 ·walk_at "I2"
  obtain ⟨a, g, rfl, ha, k⟩ := h
  refine ⟨_, (AE (AG (An (AA (pxi AO (pv 0) AC) (AA (JJ FC (pxi AO (pv 0) AC)) (AA (JJ FC (pxi AO (pv 0) AC)) AB)))))), ?_⟩
  walk_at "RD"
  walk_at "AUTO"
  exact k _ _ hs he
theorem KB : AL ["throw"] ["throw"] (AF DW) := by walk_at "SC"
noncomputable def FK (K : W.Frag) : Sp := fun vs H Q _ => ∃ (a : Addr) (t : Thr), vs = [.ref a] ∧ SqT K H a t.vs ∧ ∀ D H', AI H H' → H' D = some (.tup (Ng t).vs) → Q (.ref D) H'
theorem KQ (T : Tx K mg) : Aj P w K mg base CX0 1 T.Fj T.FF ["throw"] (FK K) := by
 refine T.Fw.F.ok KB (fun _ _ _ _ h => by walk_at "LN") ?_
 ·walk_at "I2"
  obtain ⟨a, t, rfl, ha, k⟩ := h
  refine ⟨_, (AE (AG (An (AA (JJ FC (pxi AO (pv 0) AC)) (AA (pxi AO (pv 0) AC) (AA (JJ FC (pxi AO (pv 0) AC)) (AA (pxi AO (pv 0) AC) AB))))))), ?_⟩
  walk_at "RD"
  walk_at "AUTO"
  exact k _ _ hs he
theorem Dm : AL ["gates", "found"] ["gates"] (AF CS) := by walk_at "SC"
noncomputable def Ik (K : W.Frag) : Sp := fun vs H Q _ => ∃ (l : Addr) (as : List Addr) (gs : List G), vs = [.ref l] ∧ SqL K H l (as.map V.ref) ∧ Aq H as gs ∧ (gs.map G.p).Nodup ∧ 2 ≤ gs.length ∧ gs.length ≤ 40 ∧ (∀ g ∈ gs, OkG g) ∧ ∀ D H', AI H H' → Na false H' D gs → Q (.ref D) H'
theorem JE {H : Hp} : ∀ {ys : List V} {gs : List G}, Paired (fun v g => ∃ p, v = V.ref p ∧ H p = some (.tup (G.vs (CD g)))) ys gs → ∃ as : List Addr, ys = as.map V.ref ∧ Aq H as (gs.map CD)
 | _, _, .nil => ⟨[], rfl, .nil⟩
 | _, _, .cons ⟨p, e1, e2⟩ t => by
  obtain ⟨as, e, ga⟩ := JE t
  exact ⟨p :: as, by rw [e1, e]; rfl, .cons e2 ga⟩
theorem Hz (T : Tx K mg) : Aj P w K mg base CX0 7 T.EX T.Dn ["gates"] (Ik K) := by
 refine T.EZ.F.ok Dm (fun _ _ _ _ h => by walk_at "LN") ?_
 ·walk_at "I2"
  obtain ⟨l, as, gs, rfl, hl, ga, nd, l2, h40, ok, k⟩ := h
  refine ⟨_, (AD (pst 1 Dm (pcl T.Bn (B7 T) hr Ag (AA (Ib rfl (⟨rfl, by decide +kernel, by decide +kernel, by decide +kernel, rfl, by decide +kernel, by with_unfolding_all rfl, by rfl, by rfl, by rfl⟩ : A8 _ _ "gate" [] []) (Cd (AK Bq (by rfl) T.EH DF (AA (pv 0) AB))) (fun _ _ _ _  => (pcl T.G9 (Lc T) hr Ag (AA (pv 0) AB))) (fun _ _ _ _ => Gb)) AB)))
   (AD (AT (ptc NS (pv 1) Hd) (AE (AG (pcl T.E1 (GB T) hr Ag (AA (pv 0) AB))))
    AM)
   (AE (AG (An (AA Ar (AA (pcl T.Fw (KQ T) hr Ag (AA (pxi AO (pv 1) AC) AB)) (AA (pxi AO (pv 1) AC) (AA (pxi AO (pv 1) AC) AB))))))))), ?_⟩
  delta J8
  walk_at "AUTO"
  intro D1 H1 as1 sg nD s1 e1 ga1 hp ha
  have lg := hp.length_eq
  have ok1 : ∀ g ∈ sg, OkG g := fun g hg => ok g (hp.mem_iff.mp hg)
  refine ⟨⟨_, SqL.of e1⟩, fun C nC => ?_⟩
  refine MZ (F := fun H v g => ∃ p, v = V.ref p ∧ H p = some (.tup (G.vs (CD g)))) (fun _ _ _ _ s ⟨p, e1, e2⟩ => ⟨p, e1, s.get e2⟩) (fun H v g xs ys hD ⟨p, e1, e2⟩ => ⟨p, e1, by rw [AJ (N1 e2 hD (by intro z; cases z))]; exact e2⟩) (SqL.of e1) ga1 nC (by lia) ?_ ?_
  ·intro v g H2 R hg s2 ev hR
   delta qB
   walk_at "AUTO"
   unfold GO
   exact ⟨_, g, rfl, SqT.of ev, fun D H3 s3 e3 => hR _ _ s3 ⟨D, rfl, e3⟩⟩
  intro H2 ys s2 e2 pr
  obtain ⟨as2, rfl, ga2⟩ := JE pr
  unfold Bb
  refine ⟨_, as2, sg.map CD, rfl, SqL.of e2, ga2, Q7 ha, by rw [z6]; lia, by rw [z6]; lia, fun g hg => ?_, fun H3 s3 nb => ?_, fun D H3 q t x y s3 fa => ?_⟩
  ·obtain ⟨g', hg', rfl⟩ := zX.mp hg
   exact Sk (ok1 g' hg')
  ·walk_at "AUTO"
   unfold Dp
   have s13 := s1.trans (s2.trans s3)
   exact ⟨_, as, gs, sg, rfl, s13.seq hl, ga.same s13, nd, h40, ok, hp, ha, fun z => nb (Oo z), fun D H4 s4 b => k D H4 (s13.trans s4) (.bar b)⟩
  ·have eD := fa.eD
   obtain ⟨x, hx, rfl⟩ := zX.mp fa.hx
   obtain ⟨y, hy, rfl⟩ := zX.mp fa.hy
   walk_at "AUTO"
   unfold FK
   refine ⟨_, t, rfl, SqT.of fa.eq, fun D2 H4 s4 e4 => ?_⟩
   have eD4 := s4.get eD
   walk_at "AUTO"
   exact k _ _ (s1.trans (s2.trans (s3.trans (s4.trans hs)))) (.throw D2 (Ng t) x y he (hs.get e4) (RD fa.ok) (fun g hg => RT.mpr (fa.all _ (zX.mpr ⟨g, hp.mem_iff.mpr hg, rfl⟩))) (hp.mem_iff.mp hx) (hp.mem_iff.mp hy) fa.lt (Nk fa.tx) (Nk fa.ty))
theorem BW : AL ["ordered", "throws", "index", "earlier", "later"] ["ordered"] (AF Dc) := by walk_at "SC"
structure TrA (H : Hp) (TL : Addr) (gs : List G) (n : Nat) (don : Nat → Nat → Prop) (qs : List Addr) (ts : List Thr) : Prop where
 eT : H TL = some (.lst (qs.map V.ref))
 pr : Paired (fun q (t : Thr) => H q = some (.tup t.vs)) qs ts
 ok : ∀ t ∈ ts, OkT t
 one : ∃ t ∈ ts, ∃ g ∈ gs, t.pas g
 len : qs.length ≤ n
 two : ∀ (i j : Nat) (x y : G), gs[i]? = some x → gs[j]? = some y → i < j → don i j → ∃ t ∈ ts, ∀ g : G, t.pas g ↔ Gh (x.f * y.p - y.h * x.p) (y.h - x.f) (y.p - x.p) g
theorem TrA.same {H H' : Hp} {TL : Addr} {gs : List G} {n : Nat} {don : Nat → Nat → Prop} {qs : List Addr} {ts : List Thr} (h : TrA H TL gs n don qs ts) (s : AI H H') : TrA H' TL gs n don qs ts := ⟨s.get h.eT, Paired.mapP h.pr fun _ _ e => s.get e, h.ok, h.one, h.len, h.two⟩
noncomputable def KN (K : W.Frag) : Sp := fun vs H Q _ => ∃ (l : Addr) (as : List Addr) (gs : List G), vs = [.ref l] ∧ SqL K H l (as.map V.ref) ∧ Aq H as gs ∧ Asc gs ∧ 1 ≤ gs.length ∧ gs.length ≤ 12 ∧ (∀ g ∈ gs, OkG g) ∧ ∀ (D : Addr) (H' : Hp) (qs : List Addr) (ts : List Thr), H D = none → AI H H' → H' D = some (.lst (qs.map V.ref)) → Paired (fun q (t : Thr) => H' q = some (.tup t.vs)) qs ts → qs.length ≤ 200 → Sv gs ts → Q (.ref D) H'
noncomputable def Wm1 (l TL : Addr) (gs : List G) (H : Hp) : Nat → St → Hp → Prop := fun i σ H' => ∃ (o2 o3 o4 : Option V) (qs : List Addr) (ts : List Thr), σ = [some (.ref l), some (.ref TL), o2, o3, o4] ∧ AI H H' ∧ TrA H' TL gs (1 + 12 * i) (fun a _ => a < i) qs ts
noncomputable def Wm2 (l TL ea : Addr) (gs : List G) (H : Hp) (i : Nat) : Nat → St → Hp → Prop := fun j σ H' => ∃ (o4 : Option V) (qs : List Addr) (ts : List Thr), σ = [some (.ref l), some (.ref TL), some (.int (i : Int)), some (.ref ea), o4] ∧ AI H H' ∧ TrA H' TL gs (1 + 12 * i + j) (fun a c => a < i ∨ a = i ∧ c < i + 1 + j) qs ts
theorem KM (T : Tx K mg) : Aj P w K mg base CX0 8 T.GC T.FZ ["ordered"] (KN K) := by
 refine T.F3.F.ok BW (fun _ _ _ _ h => by walk_at "LN") ?_
 ·walk_at "I2"
  obtain ⟨l, as, gs, rfl, hl, ga, ha, l1, l12, ok, k⟩ := h
  refine ⟨_, (AD (pst 1 BW (BZ (AA (pcl T.DL (Ff T) hr Ag (AA (GI IK (pv 0) Hy (JD AC)) AB)) AB)))
   (AD (Cr PassesOwn.never rfl (PL (by rfl) T.J7 (AA (pv 0) AB)) (Qr (n := 2) rfl (IF (pgn 2 BW) (IF (pgn 3 BW) Pa)))
    (AE (Cr PassesOwn.never rfl (Cd (GI IK (pv 0) (JD (AV BA (pv 2) AC)) Hy)) (pgn 4 BW)
      (AE (BK (Ma (pv 1) (pcl T.JZ (LB T) hr Ag (AA (pxi AO (pv 3) AC) (AA (pxi AO (pv 3) AC) (AA (pxi AO (pv 4) AC) (AA (pxi AO (pv 4) AC) AB)))))))))))
   (AE (AG (pv 1))))), ?_⟩
  have la := ga.len
  have h0 : 0 < gs.length := by lia
  walk_at "Q"
  walk_at "RD"
  walk_at "AUTO"
  have he' : H' p = some (.lst ((as.take 1).map V.ref)) := by rw [he, show (1 : Int) = ((1 : Nat) : Int) from rfl, Kv, List.map_take]
  have gaT := (ga.same hs).takeG 1
  have lT : (gs.take 1).length ≤ 1 := by rw [List.length_take]; lia
  refine ⟨p, as.take 1, gs.take 1, rfl, SqL.of he', gaT, List.Pairwise.sublist (List.take_sublist _ _) ha, by lia, fun g hg => ok g (List.mem_of_mem_take hg), fun H1 s1 z => absurd (Pu (by lia)) z, fun q0 H1 t0 s1 e1 ot0 al0 => ⟨by decide, fun TL H2 nT s2 eT => ?_⟩⟩
  walk_at "NX"
  have s02 := hs.trans (s1.trans s2)
  have nT0 : H TL = none := (hs.trans s1).free nT
  have one0 : ∃ t ∈ [t0], ∃ g ∈ gs, t.pas g := ⟨t0, by simp, gs[0], zR h0, al0 _ (by
   have := zK (l := gs) (i := 0) h0
   rw [this]; simp)⟩
  clear he' gaT lT al0 nT he hn
  walk_at "Q"
  refine ⟨_, rfl, l, rfl, ⟨_, s02.seq hl⟩, OJ (xs := as.map V.ref) (Wm1 l TL gs H) ⟨none, none, none, [q0], [t0], rfl, s02, ⟨eT, .cons (s2.get e1) .nil, fun t ht => by rw [zD.mp ht]; exact ot0, one0, by simp, fun _ _ _ _ _ _ _ z => absurd z (by lia)⟩⟩ (fun i σ H3 _ ⟨_, _, _, _, _, _, s3, _⟩ => s3.seq hl) ?_ ?_⟩
  ·rintro i vv σ H3 pp H4 hx ⟨o2, o3, o4, qs, ts, rfl, s3, tr⟩ hn s4 e4
   have hi : i < gs.length := by
    have := (z8.mp hx).1
    rw [z6] at this
    lia
   obtain ⟨ea, fe, ee⟩ := ga.get (z0 hi)
   have ex : vv = V.ref ea := by
    rw [zG, fe] at hx
    exact (zI hx).symm
   subst ex
   have s04 := s3.trans s4
   have gu := z0 hi
   generalize hu0 : gs[i] = u at ee gu
   have ou := ok u (zT gu)
   delta KI Fa KG
   refine ⟨_, SqT.of e4, rfl, _, _, rfl, _, _, rfl, rfl, ?_⟩
   refine ⟨_, rfl, _, rfl, _, _, rfl, rfl, _, rfl, l, rfl, _, s04.seq hl, fun S H5 nS s5 eS => ?_⟩
   rw [show (i : Int) + 1 = ((i + 1 : Nat) : Int) by lia, Mx, ← List.map_drop] at eS
   have s05 := s04.trans s5
   have trS := (tr.same s4).same s5
   have neS : S ≠ TL := fun z => by
    have := (tr.same s4).eT
    rw [z, this] at nS
    cases nS
   refine ⟨S, rfl, ⟨_, SqL.of eS⟩, LQ (xs := (as.drop (i + 1)).map V.ref) (fun j σ H' => Wm2 l TL ea gs H i j σ H' ∧ H' S = some (.lst ((as.drop (i + 1)).map V.ref))) ⟨⟨o4, qs, ts, rfl, s05, ⟨trS.eT, trS.pr, trS.ok, trS.one, by have := trS.len; lia, fun a c x y h1 h2 h3 h4 => trS.two a c x y h1 h2 h3 (by lia)⟩⟩, eS⟩ (fun j σ H6 _ ⟨_, z⟩ => SqL.of z) ?_ ?_⟩
   ·rintro j vv σ H6 hx ⟨⟨o4, qs, ts, rfl, s6, tr⟩, eS6⟩
    have hj : i + 1 + j < gs.length := by
     have := (z8.mp hx).1
     rw [z6, zh] at this
     lia
    obtain ⟨la', fl, el⟩ := ga.get (z0 hj)
    have ex : vv = V.ref la' := by
     rw [zG, List.getElem?_drop, fl] at hx
     exact (zI hx).symm
    subst ex
    have gv := z0 hj
    generalize hv0 : gs[i + 1 + j] = v at el gv
    have ov := ok v (zT gv)
    have eu6 := s6.get ee
    have ev6 := s6.get el
    have luv := DN ha gu gv (by lia)
    obtain ⟨p1, p2, p3, p4, p5⟩ := id ou
    obtain ⟨q1, q2, q3, q4, q5⟩ := id ov
    delta Ht
    refine ⟨⟨_, tr.eT⟩, _, SqT.of eu6, _, rfl, _, SqT.of eu6, _, rfl, _, SqT.of ev6, _, rfl, _, SqT.of ev6, _, rfl, _, rfl, _, rfl, _, rfl, _, rfl, by lia, by lia, by lia, by lia, by lia, fun q H7 x1 y1 z1 v1 s7 e7 Lw1 Lw2 => ?_⟩
    have lo := Nj luv Lw1 Lw2
    have ot := PY (by lia) (by lia) (by lia) (by lia) Lw1 Lw2
    have tr7 := tr.same s7
    have ll := tr.len
    have nq : ∀ b xs, H7 b = some (.tup xs) → b ≠ TL := fun b xs e z => by rw [z, tr7.eT] at e; cases e
    refine ⟨_, tr7.eT, by rw [z6, PySem.sizeLine_eq]; lia, ⟨_, qs ++ [q], ts ++ [⟨x1, y1, z1, v1⟩], rfl, (s6.trans s7).updFresh nT0, ⟨by rw [AQ, zj]; rfl, ?_, ?_, ?_, ?_, ?_⟩⟩, ?_⟩
    ·exact Paired.snoc (Paired.mapP tr7.pr fun b t e => (AJ (nq b _ e)).trans e) ((AJ (nq q _ e7)).trans e7)
    ·intro t ht
     rcases zg.mp ht with z | z
     ·exact tr7.ok t z
     ·rw [zD.mp z]; exact ot
    ·obtain ⟨t, ht, g', hg', pg'⟩ := tr7.one
     exact ⟨t, zy _ ht, g', hg', pg'⟩
    ·rw [zW]
     simp only [zU, List.length_nil]
     lia
    ·intro a c x y h1 h2 h3 h4
     by_cases hc : a < i ∨ a = i ∧ c < i + 1 + j
     ·obtain ⟨t, ht, ht2⟩ := tr7.two a c x y h1 h2 h3 hc
      exact ⟨t, zy _ ht, ht2⟩
     ·have ea' : a = i := by lia
      have ec' : c = i + 1 + j := by lia
      subst ea' ec'
      rw [gu] at h1
      rw [gv] at h2
      cases h1
      cases h2
      exact ⟨_, zO _ (zD.mpr rfl), lo.1⟩
    ·exact (AJ neS).trans (s7.get eS6)
   ·rintro σ H6 ⟨⟨o4, qs, ts, rfl, s6, tr⟩, eS6⟩
    refine ⟨_, _, _, qs, ts, rfl, s6, ⟨tr.eT, tr.pr, tr.ok, tr.one, ?_, fun a c x y h1 h2 h3 h4 => tr.two a c x y h1 h2 h3 ?_⟩⟩
    ·have := tr.len
     rw [z6, zh] at this
     lia
    ·have : c < gs.length := (z8.mp h2).1
     rw [z6, zh, la]
     lia
  rintro σ H3 ⟨o2, o3, o4, qs, ts, rfl, s3, tr⟩
  refine hM _ _ ?_
  clear hM M
  walk_at "RD"
  refine k TL H3 qs ts nT0 s3 tr.eT tr.pr ?_ ⟨fun z => ?_, tr.ok, tr.one, fun x hx y hy lt => ?_⟩
  ·have := tr.len
   rw [z6] at this
   lia
  ·obtain ⟨t, ht, _⟩ := tr.one
   rw [z] at ht
   exact absurd ht (by simp)
  ·obtain ⟨a, ea⟩ := zd.mp hx
   obtain ⟨c, ec⟩ := zd.mp hy
   have hac := GU ha ea ec lt
   exact tr.two a c x y ea ec hac (by rw [z6, la]; exact (z8.mp ea).1)
theorem D8 : AL ["gates", "ordered", "tried"] ["gates"] (AF E9) := by walk_at "SC"
noncomputable def Lw (K : W.Frag) : Sp := fun vs H Q _ => ∃ (l : Addr) (as : List Addr) (gs : List G), vs = [.ref l] ∧ SqL K H l (as.map V.ref) ∧ Aq H as gs ∧ (gs.map G.p).Nodup ∧ 1 ≤ gs.length ∧ gs.length ≤ 12 ∧ (∀ g ∈ gs, OkG g) ∧ LM.Tbl H Dd F8 N4 ∧ ∀ D H' L q t sg, H L = none → S8 Dd H H' → LM.Tbl H' Dd F8 N4 → Qk H' D gs L q t sg → Q (.ref D) H'
theorem Ll (T : Tx K mg) : Aj P w K mg base CX0 9 T.Ii T.D6 ["gates"] (Lw K) := by
 refine LM.Fun.okL T.IS.F T.Lo D8 (fun vs H Q E h => ?_) (fun cdv A outer s H vs Q E la hr h => ?_)
 ·obtain ⟨l, as, gs, rfl, hl, ga, nd, l1, l12, ok, tb, k⟩ := h
  rfl
 ·obtain ⟨l, as, gs, rfl, hl, ga, nd, l1, l12, ok, tb, k⟩ := h
  have hu := Sx hr
  refine ⟨_, (AD (pst 1 D8 (AK Bq (by rfl) T.EH DF (AA (pv 0) AB)))
   (AD (Ks (i := 2) rfl D8.nd rfl (Or.inl rfl) (⟨rfl, by decide +kernel, by decide +kernel, by decide +kernel, rfl, by decide +kernel, by with_unfolding_all rfl, by rfl, by rfl, by rfl⟩ : A8 _ _ "throw" ["ordered"] [1]) (Cd (pcl T.F3 (KM T) hr Ag (AA (pv 1) AB))) (fun _ _ _ _  => (An (AA (pcl T.Ch (EV T) hr Ag (AA (pv 0) (AA (pv 1) AB))) (AA (pv 0) AB)))) (fun _ _ _ _ => Gb))
   (AE (AG (LM.Sl (x := "told") (by rfl) T.z_max T.Bv (hr.mono (by decide)) la (by exact ⟨rfl, rfl, fun _ _ _ _ _ _ _ _ => rfl, rfl, rfl, by decide, rfl, rfl, rfl, by decide, fun _ => rfl⟩) (pv 2)))))), ?_⟩
  have la := ga.len
  walk_at "Q"
  walk_at "RD"
  walk_at "AUTO"
  intro S H1 as1 sg nS s1 eS ga1 hp ha
  walk_at "NX"
  have lsg : sg.length = gs.length := hp.length_eq
  have oks : ∀ g ∈ sg, OkG g := fun g hg => ok g (hp.mem_iff.mp hg)
  walk_at "Q"
  refine ⟨_, rfl, S, as1, sg, rfl, SqL.of eS, ga1, ha, by lia, by lia, oks, fun TL H2 qs ts nT s2 eT pr lq tr => ⟨TL, rfl, ⟨_, SqL.of eT⟩, fun D nD => ?_⟩⟩
  refine Pk (as := qs) (bs := ts) (fun H q t => H q = some (.tup t.vs)) (fun _ _ _ _ s e => s.get e)
   (fun H y q t => ∃ p L, y = V.ref p ∧ L ≠ D ∧ H1 L = none ∧ H p = some (.tup [.ref L, .ref q]) ∧ H L = some (.lst ((Ab (sg.filter (SF t.a t.b t.c t.d))).map V.int)) ∧ H q = some (.tup t.vs))
   (fun _ _ _ _ _ s ⟨p, L, e1, e2, e3, e4, e5, e6⟩ => ⟨p, L, e1, e2, e3, s.get e4, s.get e5, s.get e6⟩) ?_ (SqL.of eT) pr nD (by lia) ?_ ?_
  ·rintro H3 v q t xs ys h1 h2 ⟨p, L, e1, e2, e3, e4, e5, e6⟩
   have n1 : p ≠ D := fun z => by rw [z, h1] at e4; cases e4
   have n2 : q ≠ D := fun z => by rw [z, h1] at e6; cases e6
   exact ⟨p, L, e1, e2, e3, (AJ n1).trans e4, (AJ e2).trans e5, (AJ n2).trans e6⟩
  ·intro q t H3 R ht s3 hD eq kR
   have ot := tr.ok t ht
   refine ⟨_, rfl, _, rfl, q, S, t.a, t.b, t.c, t.d, as1, sg, rfl, eq, SA ot.b0 ot.d0 ot.a1 ot.b1 ot.c1 ot.d1, (s2.trans s3).seq (SqL.of eS), ga1.same (s2.trans s3), by lia, oks, fun L H4 nL s4 eL => ?_⟩
   refine ⟨_, rfl, by show 2 ≤ _; rw [PySem.sizeLine_eq]; decide, fun p H5 nP s5 eP => ?_⟩
   exact kR _ _ (s4.trans s5) ⟨p, L, rfl, fun z => hD (by rw [← z]; exact nL), (s2.trans s3).free nL, eP, s5.get eL, (s4.trans s5).get eq⟩
  ·intro H3 ys s3 eD ly prs
   walk_at "NX"
   have lqt : qs.length = ts.length := Paired.length pr
   have s03 := s1.trans (s2.trans s3)
   have tb3 := Nm tb s03
   obtain ⟨pt, ept⟩ := tb3.tab
   have l0 : 0 < ts.length := List.length_pos_iff.mpr tr.ne
   refine ⟨_, rfl, D, ys, (fun i => match ts[i]? with | some t => RH sg t | none => 0), rfl, SqL.of eD, by lia, tb3, fun i y hy => ?_, fun i y H4 hy best tb4 k4 => ?_⟩
   ·obtain ⟨q, t, h1, h2, p, L, rfl, nLD, nL, e4, e5, e6⟩ := prs i y hy
    refine ⟨p, L, [.ref q], _, rfl, SqT.of e4, SqL.of e5, ?_⟩
    dsimp only
    rw [h2, z6, Ab, z6]
    rfl
   ·obtain ⟨q, t, h1, h2, p, L, rfl, nLD, nL, e4, e5, e6⟩ := prs i y hy
    have n1 : p ≠ Dd := fun z => by rw [z, ept] at e4; cases e4
    have n2 : L ≠ Dd := fun z => by rw [z, ept] at e5; cases e5
    have n3 : q ≠ Dd := fun z => by rw [z, ept] at e6; cases e6
    refine k p H4 L q t sg (s1.free nL) (fun b u n e => k4 b u n (s03.get e)) tb4 ⟨k4 p _ n1 e4, k4 L _ n2 e5, k4 q _ n3 e6, tr.ok t (zT h2), hp, ha, fun u w m hm ps hs hpp => Oq tr oks ha (fun t' ht' => ?_) u w m hm ps hs hpp⟩
    obtain ⟨j, ej⟩ := zd.mp ht'
    have hj := (z8.mp ej).1
    have := (best j (by lia)).1
    dsimp only at this
    rw [ej, h2] at this
    exact this
theorem HS : AL ["gate", "number"] ["gate"] (AF E3) := by walk_at "SC"
noncomputable def L7 {K : W.Frag} {mg : Str → Option Value} (T : Tx K mg) : Sp := fun vs H Q E => ∃ (q : Addr) (p f h : Int), vs = [.ref q] ∧ H q = some (.tup [.int p, .int f, .int h]) ∧ (∀ e, DI p f h = some e → E (T.err e) none H) ∧ (DI p f h = none → Q .non H)
theorem HK (T : Tx K mg) : Aj P w K mg base (CXE P w) 1 T.Hv T.HH ["gate"] (L7 T) := by
 refine T.E4.F.okX HS (fun _ _ _ _ h => by walk_at "LN") ?_
 ·walk_at "I2"
  obtain ⟨q, p, f, h, rfl, hq, kE, k⟩ := h
  refine ⟨_, (AD (AT (ptc Ec (pxi AO (pv 0) AC) (pxi AO (pv 0) AC)) (AE (A6 Cf rfl T.NE (by rfl) T.FD (AA Ar AB)))
    AM)
   (AE (Cr Q4 rfl (QY (pv 0)) (pgn 1 HS)
    (AE (AT (Ki (ptc Bc (pv 1) (Aa (v := .int (-1000)) (by rfl) T.SL T.Sr)) (Hu (ptc Ec (pv 1) (Aa (v := .int (1000)) (by rfl) T.Oa T.OU)))).pt (AE (A6 Cf rfl T.HJ (by rfl) T.CY (AA Ar AB)))
      AM))))), ?_⟩
  walk_at "RD"
  walk_at "AUTO"
  unfold DI at kE k
  by_cases hf : h < f
  ·rw [if_pos (z5 hf)]
   rw [if_pos hf] at kE
   exact ⟨by decide, kE _ rfl⟩
  rw [if_neg (fun z => hf (z4 z))]
  rw [if_neg hf] at kE k
  refine ⟨_, rfl, q, rfl, ⟨_, SqT.of hq⟩, PH (xs := [V.int p, V.int f, V.int h]) (fun i σ H' => ∃ o, σ = [some (.ref q), o] ∧ H' = H ∧ ∀ x ∈ [p, f, h].take i, InB x) ⟨none, rfl, rfl, fun _ z => absurd z (by simp)⟩ (fun _ _ _ _ ⟨_, _, e, _⟩ => SqT.of (e ▸ hq)) ?_ ?_⟩
  ·rintro i v σ H1 hx ⟨o, rfl, rfl, hi⟩
   have hil : i < [p, f, h].length := (z8.mp hx).1
   have ev : v = V.int [p, f, h][i] := by
    have hx : ([p, f, h].map V.int)[i]? = some v := hx
    rw [zG, z0 hil] at hx
    exact (zI hx).symm
   subst ev
   have hmem := zR hil
   have htk : [p, f, h].take (i + 1) = [p, f, h].take i ++ [[p, f, h][i]] := zK hil
   generalize [p, f, h][i] = x at *
   walk_at "RD"
   by_cases h1 : x < -1000
   ·rw [if_pos (z5 h1)]
    rw [if_neg (fun z => by simp at hmem; rcases hmem with rfl | rfl | rfl <;> lia)] at kE
    exact ⟨by decide, kE _ rfl⟩
   rw [if_neg (fun z => h1 (z4 z))]
   by_cases h2 : 1000 < x
   ·rw [if_pos (z5 h2)]
    rw [if_neg (fun z => by simp at hmem; rcases hmem with rfl | rfl | rfl <;> lia)] at kE
    exact ⟨by decide, kE _ rfl⟩
   rw [if_neg (fun z => h2 (z4 z))]
   refine ⟨⟨_, rfl⟩, fun y hy => ?_⟩
   rw [htk] at hy
   rcases zg.mp hy with z | z
   ·exact hi y z
   ·rw [zD.mp z]
    exact ⟨by lia, by lia⟩
  ·rintro σ H1 ⟨o, rfl, rfl, hi⟩
   exact k (if_pos ⟨hi p (by simp), hi f (by simp), hi h (by simp)⟩)
theorem KJ : AL ["places"] ["places"] (AF DZ) := by walk_at "SC"
noncomputable def KP {K : W.Frag} {mg : Str → Option Value} (T : Tx K mg) : Sp := fun vs H Q E => ∃ (l : Addr) (ps : List Int), vs = [.ref l] ∧ SqL K H l (ps.map V.int) ∧ ps.length < 4000 ∧ (DD ps → ∀ H', AI H H' → E (T.err .badlist) none H') ∧ (¬ DD ps → ∀ H', AI H H' → Q .non H')
theorem KD (T : Tx K mg) : Aj P w K mg base (CXE P w) 1 T.F2 T.FW ["places"] (KP T) := by
 refine T.Fv.F.okX KJ (fun _ _ _ _ h => by walk_at "LN") ?_
 ·walk_at "I2"
  obtain ⟨l, ps, rfl, hl, h4, kE, k⟩ := h
  refine ⟨_, (AD (AT (ptc Az (AK AZ (by rfl) T.Bv BP (AA (pv 0) AB)) AC) (AE (A6 Cf rfl T.Jr (by rfl) T.EY (AA Ar AB)))
    AM)
   (AD (AT (ptc Ec (AK AZ (by rfl) T.Bv BP (AA (pv 0) AB)) (Aa (v := .int (40)) (by rfl) T.IZ T.IX)) (AE (A6 Cf rfl T.Jr (by rfl) T.EY (AA Ar AB)))
    AM)
   (AE (AT (ptc Bc (AK Ps (by rfl) T.Bv BP (AA (A1 (Pt (by rfl)) (by rfl) T.z_set TY (AA (pv 0) AB)) AB)) (AK AZ (by rfl) T.Bv BP (AA (pv 0) AB))) (AE (A6 Cf rfl T.Jr (by rfl) T.EY (AA Ar AB)))
    AM)))), ?_⟩
  walk_at "RD"
  refine ⟨_, .inl hl, ?_⟩
  rw [z6]
  by_cases h0 : ps.length = 0
  ·rw [if_pos (z5 (by lia))]
   exact ⟨by decide, kE (.inl (List.length_eq_zero_iff.mp h0)) _ (AI.refl _)⟩
  rw [if_neg (fun z => h0 (by have := z4 z; lia))]
  refine ⟨_, .inl hl, ?_⟩
  rw [z6]
  by_cases h1 : 40 < ps.length
  ·rw [if_pos (z5 (by lia))]
   exact ⟨by decide, kE (.inr (.inl h1)) _ (AI.refl _)⟩
  rw [if_neg (fun z => h1 (by have := z4 z; lia))]
  refine ⟨ps, hl, h4, fun D H1 S n n1 s1 e1 le iff => ⟨S, n, e1, _, .inl (s1.seq hl), ?_⟩⟩
  rw [z6]
  by_cases h2 : n < ps.length
  ·rw [if_pos (z5 (by lia))]
   exact ⟨by decide, kE (.inr (.inr fun z => by have := iff.mpr z; lia)) _ s1⟩
  rw [if_neg (fun z => h2 (by have := z4 z; lia))]
  refine k (fun z => ?_) _ s1
  rcases z with z | z | z
  ·rw [z] at h0; exact h0 rfl
  ·exact h1 z
  ·exact z (iff.mp (by lia))
theorem GN : AL ["throw", "number"] ["throw"] (AF D7) := by walk_at "SC"
noncomputable def Ld {K : W.Frag} {mg : Str → Option Value} (T : Tx K mg) : Sp := fun vs H Q E => ∃ (q : Addr) (a b c d : Int), vs = [.ref q] ∧ H q = some (.tup [.int a, .int b, .int c, .int d]) ∧ (QV a b c d → E (T.err .badthrow) none H) ∧ (¬ QV a b c d → Q .non H)
theorem Kf (T : Tx K mg) : Aj P w K mg base (CXE P w) 1 T.G1 T.Ft ["throw"] (Ld T) := by
 refine T.G5.F.okX GN (fun _ _ _ _ h => by walk_at "LN") ?_
 ·walk_at "I2"
  obtain ⟨q, a, b, c, d, rfl, hq, kE, k⟩ := h
  refine ⟨_, (AD (AT (Ki (ptc Bc (pxi AO (pv 0) AC) AC) (Hu (ptc Bc (pxi AO (pv 0) AC) AC))).pt (AE (A6 Cf rfl T.LR (by rfl) T.E7 (AA Ar AB)))
    AM)
   (AE (Cr Q4 rfl (QY (pv 0)) (pgn 1 GN)
    (AE (AT (Ki (ptc Bc (pv 1) (JJ FC (Aa (v := .int (999999999)) (by rfl) T.Fq T.GD))) (Hu (ptc Ec (pv 1) (Aa (v := .int (999999999)) (by rfl) T.Fq T.GD)))).pt (AE (A6 Cf rfl T.LR (by rfl) T.E7 (AA Ar AB)))
      AM))))), ?_⟩
  walk_at "RD"
  walk_at "AUTO"
  by_cases h1 : b < 1
  ·rw [if_pos (z5 h1)]
   exact ⟨by decide, kE (.inl h1)⟩
  rw [if_neg (fun z => h1 (z4 z))]
  walk_at "AUTO"
  by_cases h2 : d < 1
  ·rw [if_pos (z5 h2)]
   exact ⟨by decide, kE (.inr (.inl h2))⟩
  rw [if_neg (fun z => h2 (z4 z))]
  refine ⟨_, rfl, q, rfl, ⟨_, SqT.of hq⟩, PH (xs := [V.int a, V.int b, V.int c, V.int d]) (fun i σ H' => ∃ o, σ = [some (.ref q), o] ∧ H' = H ∧ ∀ x ∈ [a, b, c, d].take i, ¬ (x < -999999999 ∨ 999999999 < x)) ⟨none, rfl, rfl, fun _ z => absurd z (by simp)⟩ (fun _ _ _ _ ⟨_, _, e, _⟩ => SqT.of (e ▸ hq)) ?_ ?_⟩
  ·rintro i v σ H1 hx ⟨o, rfl, rfl, hi⟩
   have hil : i < [a, b, c, d].length := (z8.mp hx).1
   have ev : v = V.int [a, b, c, d][i] := by
    have hx : ([a, b, c, d].map V.int)[i]? = some v := hx
    rw [zG, z0 hil] at hx
    exact (zI hx).symm
   subst ev
   have hmem := zR hil
   have htk : [a, b, c, d].take (i + 1) = [a, b, c, d].take i ++ [[a, b, c, d][i]] := zK hil
   generalize [a, b, c, d][i] = x at *
   walk_at "RD"
   by_cases h3 : x < -999999999
   ·rw [if_pos (z5 h3)]
    exact ⟨by decide, kE (.inr (.inr ⟨x, hmem, .inl h3⟩))⟩
   rw [if_neg (fun z => h3 (z4 z))]
   by_cases h4 : 999999999 < x
   ·rw [if_pos (z5 h4)]
    exact ⟨by decide, kE (.inr (.inr ⟨x, hmem, .inr h4⟩))⟩
   rw [if_neg (fun z => h4 (z4 z))]
   refine ⟨⟨_, rfl⟩, fun y hy => ?_⟩
   rw [htk] at hy
   rcases zg.mp hy with z | z
   ·exact hi y z
   ·rw [zD.mp z]
    exact fun z => z.elim h3 h4
  ·rintro σ H1 ⟨o, rfl, rfl, hi⟩
   refine k fun z => ?_
   rcases z with z | z | ⟨x, hx, z⟩
   ·exact h1 z
   ·exact h2 z
   ·exact hi x hx z
theorem Ly : AL ["self"] ["self"] (AF E5) := by walk_at "SC"
noncomputable def G2 {K : W.Frag} {mg : Str → Option Value} (T : Tx K mg) : Sp := fun vs H Q _ => ∃ (b dx : Addr), vs = [.ref b] ∧ H b = some (.ins T.AN dx []) ∧ ∀ H' S P, H S = none → H P = none → (∀ a u, a ≠ b → H a = some u → H' a = some u) → Bch T.AN H' b S P [S, P] [] [] → Q .non H'
theorem Rj {K : W.Frag} {mg : Str → Option Value} {T : Tx K mg} {H : Hp} {Q : Addr → Hp → Prop} {E : XK} (k : ∀ b S P H', H b = none → H S = none → H P = none → AI H H' → Bch T.AN H' b S P [S, P] [] [] → Q b H') :
  ∀ x dx, H x = none → H dx = none → dx ≠ x → G2 T [V.ref x] (upd (upd H dx (.own x)) x (.ins T.AN dx [])) (fun v H2 => v = V.non ∧ Q x H2) E := fun x dx nx nd hd => by
 refine ⟨x, dx, rfl, AQ, fun H' S P nS nP kp hb => ⟨rfl, k x S P H' nx ?_ ?_ (fun a u e => kp a u (Ak e nx) ?_) hb⟩⟩
 ·have h1 : S ≠ x := fun z => by rw [z, AQ] at nS; cases nS
  have h2 : S ≠ dx := fun z => by rw [AJ h1, z, AQ] at nS; cases nS
  rwa [AJ h1, AJ h2] at nS
 ·have h1 : P ≠ x := fun z => by rw [z, AQ] at nP; cases nP
  have h2 : P ≠ dx := fun z => by rw [AJ h1, z, AQ] at nP; cases nP
  rwa [AJ h1, AJ h2] at nP
 ·rw [AJ (Ak e nx), AJ (Ak e nd)]
  exact e
theorem L6 (T : Tx K mg) : Aj P w K mg base CX0 1 T.Em T.Gy ["self"] (G2 T) := by
 refine T.Ig.F.ok Ly (fun _ _ _ _ h => by walk_at "LN") ?_
 ·walk_at "I2"
  obtain ⟨b, dx, rfl, hb, k⟩ := h
  refine ⟨_, (AD (Kx (pv 0) (BZ AB) rfl)
   (AE (Kx (pv 0) (BZ AB) rfl))), ?_⟩
  walk_at "RD"
  refine ⟨by decide, fun S H1 nS s1 eS => ⟨_, dx, _, s1.get hb, T.AH, T.AU, by decide, by decide, fun P H2 nP s2 eP => ?_⟩⟩
  have sb : S ≠ b := Ak hb nS |>.symm
  refine ⟨_, dx, _, s2.get AQ, T.AH, T.BC, (by show 1 < 1000; decide), ?_⟩
  have nP1 : H1 P = none := by
   have hPb : P ≠ b := fun z => by rw [z, AQ] at nP; cases nP
   rw [AJ hPb] at nP
   exact nP
  have eS2 : H2 S = some (.lst []) := s2.get ((AJ sb).trans eS)
  have pb : P ≠ b := (Ak (s1.get hb) nP1).symm
  have ps : P ≠ S := (Ak eS nP1).symm
  refine k _ S P nS (s1.free nP1) (fun a u ha e => ?_) ?_
  ·rw [AJ ha]
   exact s2.get ((AJ ha).trans (s1.get e))
  ·refine ⟨⟨dx, AQ⟩, ⟨[], (AJ sb).trans eS2, .nil⟩, ⟨[], (AJ pb).trans eP, .nil, fun _ h => absurd h (by simp)⟩, ps.symm, by simp, by simp, ⟨List.Pairwise.nil, fun _ h => absurd h (by simp), by decide⟩, fun _ h => absurd h (by simp), by decide, fun a ha => ?_⟩
   simp at ha
   rcases ha with rfl | rfl
   ·exact ⟨_, (AJ sb).trans eS2⟩
   ·exact ⟨_, (AJ pb).trans eP⟩
theorem JI : AL ["self", "place"] ["self", "place"] (AF CJ) := by walk_at "SC"
noncomputable def Iu {K : W.Frag} {mg : Str → Option Value} (T : Tx K mg) : Sp := fun vs H Q E => ∃ (b S P : Addr) (ow : List Addr) (gs : List G) (past : List (List G)) (p : Int), vs = [.ref b, .int p] ∧ Bch T.AN H b S P ow gs past ∧ ∀ H', AI H H' → Q (.bl (decide (p ∈ Ab gs))) H'
theorem JC (T : Tx K mg) : Aj P w K mg base CX0 1 T.Ee T.Di ["self", "place"] (Iu T) := by
 refine T.CN.F.ok JI (fun _ _ _ _ h => by walk_at "LN") ?_
 ·walk_at "I2"
  obtain ⟨b, S, P, ow, gs, past, p, rfl, hb, k⟩ := h
  refine ⟨_, (AE (AG (NR Pq (pv 1) (Ib rfl (⟨rfl, by decide +kernel, by decide +kernel, by decide +kernel, rfl, by decide +kernel, by with_unfolding_all rfl, by rfl, by rfl, by rfl⟩ : A8 _ _ "gate" [] []) (Cd (Bf (pv 0) rfl)) (fun _ _ _ _  => (pxi (NB (K := K) rfl) (pv 0) AC)) (fun _ _ _ _ => Gb)) (by with_unfolding_all rfl)))), ?_⟩
  obtain ⟨dx, eb⟩ := hb.at_
  obtain ⟨as, es, ga⟩ := hb.st
  delta J8
  refine ⟨_, dx, _, eb, T.AH, T.AU, _, rfl, ?_⟩
  refine ⟨_, rfl, ⟨_, SqL.of es⟩, fun D nD => ?_⟩
  refine KC (fun _ => true) (fun g => V.int g.p) (SqL.of es) ga nD (by have := hb.std.len; lia) (fun v g H R hg s1 ev hR => ?_) (fun v g H R hg s1 ev hR => ?_) fun H1 s1 e1 => ?_
  ·exact hR
  ·delta qB
   exact ⟨_, SqT.of ev, _, rfl, hR⟩
  ·rw [Rl, show (gs.map fun g => V.int g.p) = (Ab gs).map V.int from by rw [zw]; rfl] at e1
   refine ⟨_, .inl (SqL.of e1), rfl, Qi _, ?_⟩
   rw [Pd]
   exact k _ s1
theorem EO : AL ["self", "place", "gate"] ["self", "place"] (AF Ck) := by walk_at "SC"
noncomputable def Jl {K : W.Frag} {mg : Str → Option Value} (T : Tx K mg) : Sp := fun vs H Q E => ∃ (b S P : Addr) (ow : List Addr) (gs : List G) (past : List (List G)) (p : Int), vs = [.ref b, .int p] ∧ Bch T.AN H b S P ow gs past ∧ (p ∉ Ab gs → E (T.err .nogate) none H) ∧ ∀ D g, Bg gs p = some g → H D = some (.tup (G.vs g)) → Q (.ref D) H
theorem CQ (T : Tx K mg) : Aj P w K mg base (CXE P w) 1 T.FG T.EF ["self", "place"] (Jl T) := by
 refine T.BB.F.okX EO (fun _ _ _ _ h => by walk_at "LN") ?_
 ·walk_at "I2"
  obtain ⟨b, S, P, ow, gs, past, p, rfl, hb, kE, k⟩ := h
  refine ⟨_, (AD (Cr Q4 rfl (Cd (Bf (pv 0) rfl)) (pgn 2 EO)
    (AE (AT (ptc Az (pxi AO (pv 2) AC) (pv 1)) (AE (AG (pv 2)))
      AM)))
   (AE (A6 Cf rfl T.Q0 (by rfl) T.LV (AA Ar AB)))), ?_⟩
  obtain ⟨dx, eb⟩ := hb.at_
  obtain ⟨as, es, ga⟩ := hb.st
  have las := ga.len
  delta J8
  refine ⟨_, rfl, b, T.AN, dx, _, _, rfl, eb, T.AH, T.AU, rfl, S, rfl, ⟨_, SqL.of es⟩, LQ (xs := as.map V.ref) (fun i σ H' => ∃ o, σ = [some (.ref b), some (.int p), o] ∧ H' = H ∧ ∀ g ∈ gs.take i, g.p ≠ p) ⟨none, rfl, rfl, fun _ z => absurd z (by simp)⟩ (fun _ _ _ _ ⟨_, _, e, _⟩ => SqL.of (e ▸ es)) ?_ ?_⟩
  ·rintro i v σ H1 hx ⟨o, rfl, rfl, hn⟩
   have hi : i < gs.length := by
    have := (z8.mp hx).1
    rw [z6] at this
    lia
   obtain ⟨a, ha, ea⟩ := ga.get (z0 hi)
   have ex : v = V.ref a := by
    rw [zG, ha] at hx
    exact (zI hx).symm
   subst ex
   have hm := zR hi
   have htk : gs.take (i + 1) = gs.take i ++ [gs[i]] := zK hi
   generalize gs[i] = g at *
   walk_at "RD"
   refine ⟨_, SqT.of ea, _, rfl, rfl, ?_⟩
   by_cases hp : g.p = p
   ·rw [if_pos (z5 (by rw [hp]))]
    exact k a g (hp ▸ P3 hb.std.asc hm) ea
   ·rw [if_neg (fun z => hp (V.int.inj (z4 z)))]
    refine ⟨⟨_, rfl⟩, fun y hy => ?_⟩
    rw [htk] at hy
    rcases zg.mp hy with z | z
    ·exact hn y z
    ·rw [zD.mp z]
     exact hp
  ·rintro σ H1 ⟨o, rfl, rfl, hn⟩
   walk_at "RD"
   refine ⟨by decide, kE fun z => ?_⟩
   obtain ⟨g, hg, e⟩ := zX.mp z
   exact hn g (by rw [z6, las, zm]; exact hg) e
theorem EN : AL ["self", "place", "instead", "others"] ["self", "place", "instead"] (AF Co) := by walk_at "SC"
noncomputable def JP {K : W.Frag} {mg : Str → Option Value} (T : Tx K mg) : Sp := fun vs H Q E => ∃ (b S P : Addr) (ow : List Addr) (gs : List G) (past : List (List G)) (p : Int) (l : Addr) (ls : List Addr) (o : List G), vs = [.ref b, .int p, .ref l] ∧ Bch T.AN H b S P ow gs past ∧ l ∉ ow ∧ H l = some (.lst (ls.map V.ref)) ∧ Aq H ls o ∧ (∀ g ∈ o, g.p = p) ∧ Std (Ef gs p o) ∧ (300 ≤ past.length → E (T.err .deeds) none H) ∧ (past.length < 300 → ∀ H' S' ow' (D : Addr), Kp b P H H' → Bch T.AN H' b S' P ow' (Ef gs p o) (past ++ [gs]) → (∀ a ∈ ow', a ∈ ow ∨ H a = none) → Q .non H')
theorem CM (T : Tx K mg) : Aj P w K mg base (CXE P w) 1 T.FQ T.Eh ["self", "place", "instead"] (JP T) := by
 refine T.A7.F.okX EN (fun _ _ _ _ h => by walk_at "LN") ?_
 ·walk_at "I2"
  obtain ⟨b, S, P, ow, gs, past, p, l, ls, o, rfl, hb, hlo, el, go, hop, std, kE, k⟩ := h
  refine ⟨_, (AD (AT (ptc S0 (AK AZ (by rfl) T.Bv BP (AA (Bf (pv 0) rfl) AB)) (Aa (v := .int (300)) (by rfl) T.M2 T.NZ)) (AE (A6 Cf rfl T.OM (by rfl) T.Fu (AA Ar AB)))
    AM)
   (AD (Ks (i := 3) rfl EN.nd rfl (Or.inl rfl) (⟨rfl, by decide +kernel, by decide +kernel, by decide +kernel, rfl, by decide +kernel, by with_unfolding_all rfl, by rfl, by rfl, by rfl⟩ : A8 _ _ "gate" ["place"] [1]) (Cd (Bf (pv 0) rfl)) (fun _ _ _ _  => (pv 0)) (fun _ _ _ _ => (PB (ptc Qj (pxi (NB (K := K) rfl) (pv 0) AC) (pv 1)))))
   (AD (BK (Ma (Bf (pv 0) rfl) (Bf (pv 0) rfl)))
   (AE (Kx (pv 0) (AK Bq (by rfl) T.EH DF (AA (AV SR (pv 3) (pv 2)) AB)) rfl))))), ?_⟩
  obtain ⟨dx, eb⟩ := hb.at_
  obtain ⟨as, es, ga⟩ := hb.st
  obtain ⟨ps, ep, pr, hps⟩ := hb.pa
  have lp := Paired.length pr
  walk_at "Q"
  walk_at "RD"
  refine ⟨_, dx, _, eb, T.AH, T.BC, _, rfl, ?_⟩
  refine ⟨_, rfl, _, .inl (SqL.of ep), ?_⟩
  rw [z6, lp]
  by_cases h3 : 300 ≤ past.length
  ·rw [if_pos (z5 (by lia))]
   exact ⟨by decide, kE h3⟩
  ·rw [if_neg (fun z => h3 (by have := z4 z; lia))]
   walk_at "NX"
   walk_at "Q"
   delta J8
   refine ⟨_, dx, _, eb, T.AH, T.AU, _, rfl, _, rfl, ⟨_, SqL.of es⟩, fun D nD => ?_⟩
   refine OC (fun g => !decide (g.p = p)) (SqL.of es) ga nD (by have := hb.std.len; lia) (fun v g H1 R hg s1 ev hR => ?_) fun H1 as1 s1 e1 ga1 => ?_
   ·delta qB
    refine ⟨_, SqT.of ev, _, rfl, rfl, ?_⟩
    rw [show decide (V.int g.p = V.int p) = decide (g.p = p) from decide_eq_decide.mpr ⟨fun z => V.int.inj z, fun z => by rw [z]⟩]
    exact hR
   ·have eb1 := s1.get eb
    have ep1 := s1.get ep
    walk_at "NX"
    walk_at "Q"
    walk_at "RD"
    refine ⟨_, dx, _, eb1, T.AH, T.BC, _, rfl, _, rfl, ⟨_, ep1⟩, _, dx, _, eb1, T.AH, T.AU, _, rfl, _, ep1, by rw [z6, lp, PySem.sizeLine_eq]; lia, ?_⟩
    walk_at "NX"
    walk_at "RD"
    have bP : b ≠ P := N1 eb ep (by simp)
    have lP : l ≠ P := fun z => hlo (by rw [z]; exact hb.po)
    have DP : D ≠ P := (Ak ep nD).symm
    have el1 : upd H1 P (.lst (ps.map V.ref ++ [V.ref S])) l = some (.lst (ls.map V.ref)) := (AJ lP).trans (s1.get el)
    have e1' : upd H1 P (.lst (ps.map V.ref ++ [V.ref S])) D = some (.lst (as1.map V.ref)) := (AJ DP).trans e1
    have lo := Aq.len go
    have l1 := Aq.len ga1
    have lf := List.length_filter_le (fun g : G => !decide (g.p = p)) gs
    have l40 := hb.std.len
    have lpo := IE (gs := gs) (p := p) (o := o)
    have l40' := std.len
    refine ⟨_, e1', _, el1, by rw [z6, z6, PySem.sizeLine_eq]; lia, fun M H2 n2 s2 e2 => ?_⟩
    have kt : ∀ a xs, H a = some (.tup xs) → H2 a = some (.tup xs) := fun a xs e => s2.get ((AJ (hb.nep e fun _ z => by cases z)).trans (s1.get e))
    have kt1 : ∀ a xs, H1 a = some (.tup xs) → H2 a = some (.tup xs) := fun a xs e => s2.get ((AJ (N1 e ep1 (fun z => by cases z))).trans e)
    have ga2 : Aq H2 (as1 ++ ls) ((gs.filter fun g => !decide (g.p = p)) ++ o) := Aq.append (ga1.keep kt1) (go.keep kt)
    refine ⟨as1 ++ ls, by rw [zj]; exact SqL.of e2, _, ga2, ?_, by rw [zW]; lia, fun S' H3 as3 gs3 n3 s3 e3 ga3 pm ac => ?_⟩
    ·exact ((JY (gs := gs) (p := p) (o := o)).map G.p).nodup_iff.mp std.nd
    have eg : gs3 = Ef gs p o := GJ ac std.asc (pm.trans JY.symm)
    subst eg
    have eP3 : H3 P = some (.lst ((ps ++ [S]).map V.ref)) := by rw [zj]; exact s3.get (s2.get AQ)
    have eb3 : H3 b = some (.ins T.AN dx [("standing", .ref S), ("past", .ref P)]) := s3.get (s2.get ((AJ bP).trans eb1))
    have kp3 : Kp b P H H3 := fun a u h1 h2 e => s3.get (s2.get ((AJ h2).trans (s1.get e)))
    have fr : ∀ a, H3 a = none → H a = none := fun a e => by
     cases q : H a with
     | none => rfl
     | some u =>
      by_cases hb' : a = b
      ·rw [hb', eb3] at e; cases e
      ·by_cases hP : a = P
       ·rw [hP, eP3] at e; cases e
       ·rw [kp3 a u hb' hP q] at e; cases e
    have n3H : H S' = none := by
     cases q : H S' with
     | none => rfl
     | some u =>
      by_cases hb' : S' = b
      ·rw [hb', s2.get ((AJ bP).trans eb1)] at n3; cases n3
      ·by_cases hP : S' = P
       ·rw [hP, s2.get AQ] at n3; cases n3
       ·rw [s2.get ((AJ hP).trans (s1.get q))] at n3; cases n3
    have Sb : S' ≠ b := (Ak eb n3H).symm
    have SP' : S' ≠ P := (Ak ep n3H).symm
    have kt3 : ∀ a xs, H a = some (.tup xs) → H3 a = some (.tup xs) := fun a xs e => s3.get (kt a xs e)
    have kb : ∀ a xs, H3 a = some (.tup xs) → upd H3 b (.ins T.AN dx [("standing", .ref S'), ("past", .ref P)]) a = some (.tup xs) := fun a xs e => (AJ (N1 e eb3 (fun z => by cases z))).trans e
    refine ⟨_, dx, _, eb3, T.AH, T.AU, by show 2 < 1000; decide, k (by lia) _ S' (S' :: S :: ow) S' (kp3.upd (.inl rfl)) ?_ fun a ha => ?_⟩
    ·refine ⟨⟨dx, AQ⟩, ⟨as3, (AJ Sb).trans e3, ga3.keep kb⟩, ⟨ps ++ [S], (AJ bP.symm).trans eP3, Paired.snoc (Paired.keepM pr fun x y hx q => ?_) ?_, fun a ha => ?_⟩, SP', by simp, by simp [hb.po], std, fun x hx => ?_, by rw [zW]; simp only [List.length_singleton]; lia, fun a ha => ?_⟩
     ·have hxo := hps x hx
      obtain ⟨_, ex⟩ := hb.lv x hxo.1
      have hxb : x ≠ b := hb.neb ex fun _ _ _ z => by cases z
      exact q.keep (fun u e => (AJ hxb).trans (kp3 x u hxb hxo.2 e)) fun a xs e => kb a xs (kt3 a xs e)
     ·have hSb : S ≠ b := hb.neb es fun _ _ _ z => by cases z
      exact hb.st.keep (fun u e => (AJ hSb).trans (kp3 S u hSb hb.sp e)) fun a xs e => kb a xs (kt3 a xs e)
     ·rcases zg.mp ha with z | z
      ·exact ⟨by simp [(hps a z).1], (hps a z).2⟩
      ·rw [zD.mp z]; exact ⟨by simp, hb.sp⟩
     ·rcases zg.mp hx with z | z
      ·exact hb.stds x z
      ·rw [zD.mp z]; exact hb.std
     ·have hown : ∀ a ∈ ow, ∃ xs, upd H3 b (.ins T.AN dx [("standing", .ref S'), ("past", .ref P)]) a = some (.lst xs) := fun a ha => by
       obtain ⟨xs, ex⟩ := hb.lv a ha
       have hxb : a ≠ b := hb.neb ex fun _ _ _ z => by cases z
       by_cases hP : a = P
       ·rw [hP]; exact ⟨_, (AJ bP.symm).trans eP3⟩
       ·exact ⟨xs, (AJ hxb).trans (kp3 a _ hxb hP ex)⟩
      rcases zH.mp ha with z | z
      ·rw [z]; exact ⟨_, (AJ Sb).trans e3⟩
      ·rcases zH.mp z with z | z
       ·rw [z]; exact hown S hb.so
       ·exact hown a z
    ·rcases zH.mp ha with z | z
     ·rw [z]; exact .inr n3H
     ·rcases zH.mp z with z | z
      ·rw [z]; exact .inl hb.so
      ·exact .inl z
theorem IP : AL ["self", "place", "foot", "head", "gate"] ["self", "place", "foot", "head"] (AF Fo) := by walk_at "SC"
noncomputable def NM {K : W.Frag} {mg : Str → Option Value} (T : Tx K mg) : Sp := fun vs H Q E => ∃ (b S P : Addr) (ow : List Addr) (gs : List G) (past : List (List G)) (p f h : Int), vs = [.ref b, .int p, .int f, .int h] ∧ Bch T.AN H b S P ow gs past ∧ (∀ e, En gs past p f h = some e → ∀ H', AI H H' → E (T.err e) none H') ∧ (En gs past p f h = none → ∀ H' S' ow' (D : Addr), Kp b P H H' → Bch T.AN H' b S' P ow' (Ef gs p [⟨p, f, h⟩]) (past ++ [gs]) → (∀ a ∈ ow', a ∈ ow ∨ H a = none) → H' D = some (.tup [.int p, .int f, .int h]) → Q (.ref D) H')
theorem Bo (T : Tx K mg) : Aj P w K mg base (CXE P w) 2 T.Jz T.JG ["self", "place", "foot", "head"] (NM T) := by
 refine T.At.F.okX IP (fun _ _ _ _ h => by walk_at "LN") ?_
 ·walk_at "I2"
  obtain ⟨b, S, P, ow, gs, past, p, f, h', rfl, hb, kE, k⟩ := h
  refine ⟨_, (AD (AT (Ju (AW (pv 0) T.AH T.CN.mt (JC T) (hr.mono (by decide)) T.CN.b .nil Ag (AA (pv 1) AB))) (AE (A6 Cf rfl T.So (by rfl) T.NI (AA Ar AB)))
    AM)
   (AD (pst 4 IP (An (AA (pv 1) (AA (pv 2) (AA (pv 3) AB)))))
   (AD (BK (pcl T.E4 (HK T) hr Al (AA (pv 4) AB)))
   (AD (AT (ptc S0 (AK AZ (by rfl) T.Bv BP (AA (Bf (pv 0) rfl) AB)) (Aa (v := .int (40)) (by rfl) T.IZ T.IX)) (AE (A6 Cf rfl T.N3 (by rfl) T.Fs (AA Ar AB)))
    AM)
   (AD (BK (AW (pv 0) T.AH T.A7.mt (CM T) (hr.mono (by decide)) T.A7.b .nil Al (AA (pv 1) (AA (BZ (AA (pv 4) AB)) AB))))
   (AE (AG (pv 4)))))))), ?_⟩
  obtain ⟨dx, eb⟩ := hb.at_
  obtain ⟨as, es, ga⟩ := hb.st
  have las := ga.len
  walk_at "Q"
  walk_at "RD"
  refine ⟨_, _, eb, rfl, b, S, P, ow, gs, past, p, rfl, hb, fun H1 s1 => ?_⟩
  have hb1 := hb.same s1
  by_cases hp : p ∈ Ab gs
  ·refine ⟨_, rfl, ?_⟩
   rw [if_pos (z5 hp)]
   exact ⟨by decide, kE .taken (by unfold En; rw [if_pos hp]) _ s1⟩
  refine ⟨_, rfl, ?_⟩
  rw [if_neg (fun z => hp (z4 z))]
  walk_at "NX"
  walk_at "Q"
  walk_at "RD"
  refine ⟨by decide, fun q H2 n2 s2 e2 => ?_⟩
  walk_at "NX"
  walk_at "Q"
  walk_at "RD"
  refine ⟨q, p, f, h', rfl, e2, fun e he => kE e (by unfold En; rw [if_neg hp, he]; rfl) _ (s1.trans s2), fun hok => ?_⟩
  have hb2 := hb1.same s2
  obtain ⟨dx, eb⟩ := hb2.at_
  obtain ⟨as, es, ga⟩ := hb2.st
  have las := ga.len
  walk_at "NX"
  walk_at "Q"
  walk_at "RD"
  refine ⟨_, dx, _, eb, T.AH, T.AU, _, rfl, _, rfl, _, .inl (SqL.of es), ?_⟩
  rw [z6, las]
  by_cases h4 : 40 ≤ gs.length
  ·rw [if_pos (z5 (by lia))]
   exact ⟨by decide, kE .full (by unfold En; rw [if_neg hp, hok, if_pos h4]; rfl) _ (s1.trans s2)⟩
  rw [if_neg (fun z => h4 (by have := z4 z; lia))]
  walk_at "NX"
  walk_at "RD"
  refine ⟨dx, _, eb, rfl, by decide, fun l H3 n3 s3 e3 => ?_⟩
  have hb3 := hb2.same s3
  have ok := CL.mp hok
  refine ⟨b, S, P, ow, gs, past, p, l, [q], [⟨p, f, h'⟩], rfl, hb3, fun z => ?_, e3, .cons (s3.get e2) .nil, fun g hg => by rw [zD.mp hg], hb.std.put ok (by rw [RK hp]; lia), fun h3 => kE .deeds (by unfold En; rw [if_neg hp, hok, if_neg h4, if_pos h3]; rfl) _ (s1.trans (s2.trans s3)), fun h3 H4 S' ow' _ k4 b4 o4 => ?_⟩
  ·exact hb2.off n3 z
  ·refine k (by unfold En; rw [if_neg hp, hok, if_neg h4, if_neg (by lia)]; rfl) H4 S' ow' q ((Kp.of (s1.trans (s2.trans s3))).trans k4) b4 (fun a ha => ?_) (hb3.tup k4 (s3.get e2))
   exact (o4 a ha).imp id fun z => (s1.trans (s2.trans s3)).free z
theorem HQ : AL ["self", "place", "gate"] ["self", "place"] (AF Ez) := by walk_at "SC"
noncomputable def Lg {K : W.Frag} {mg : Str → Option Value} (T : Tx K mg) : Sp := fun vs H Q E => ∃ (b S P : Addr) (ow : List Addr) (gs : List G) (past : List (List G)) (p : Int), vs = [.ref b, .int p] ∧ Bch T.AN H b S P ow gs past ∧ (∀ e, GM gs past p = some e → ∀ H', AI H H' → E (T.err e) none H') ∧ (∀ g, Bg gs p = some g → GM gs past p = none → ∀ H' S' ow' (D : Addr), Kp b P H H' → Bch T.AN H' b S' P ow' (Ef gs p []) (past ++ [gs]) → (∀ a ∈ ow', a ∈ ow ∨ H a = none) → H' D = some (.tup (G.vs g)) → Q (.ref D) H')
theorem D3 (T : Tx K mg) : Aj P w K mg base (CXE P w) 2 T.Ih T.Gu ["self", "place"] (Lg T) := by
 refine T.BV.F.okX HQ (fun _ _ _ _ h => by walk_at "LN") ?_
 ·walk_at "I2"
  obtain ⟨b, S, P, ow, gs, past, p, rfl, hb, kE, k⟩ := h
  refine ⟨_, (AD (pst 2 HQ (AW (pv 0) T.AH T.BB.mt (CQ T) (hr.mono (by decide)) T.BB.b .nil Al (AA (pv 1) AB)))
   (AD (BK (AW (pv 0) T.AH T.A7.mt (CM T) (hr.mono (by decide)) T.A7.b .nil Al (AA (pv 1) (AA (BZ AB) AB))))
   (AE (AG (pv 2))))), ?_⟩
  obtain ⟨dx, eb⟩ := hb.at_
  walk_at "RD"
  refine ⟨dx, _, eb, rfl, b, S, P, ow, gs, past, p, rfl, hb, fun hp => kE .nogate (by unfold GM; rw [if_neg hp]) _ (AI.refl _), fun D g hg eD => ?_⟩
  obtain ⟨hgm, hgp⟩ := B1 hg
  have hp : p ∈ Ab gs := zX.mpr ⟨g, hgm, hgp⟩
  refine ⟨dx, _, eb, rfl, by decide, fun l H1 n1 s1 e1 => ?_⟩
  have hb1 := hb.same s1
  refine ⟨b, S, P, ow, gs, past, p, l, [], [], rfl, hb1, hb.off n1, e1, .nil, fun g hg => absurd hg (by simp), hb.std.take, fun h3 => kE .deeds (by unfold GM GQ; rw [if_pos hp, if_pos h3]) _ s1, fun h3 H4 S' ow' _ k4 b4 o4 => ?_⟩
  exact k g hg (by unfold GM GQ; rw [if_pos hp, if_neg (by lia)]) H4 S' ow' D ((Kp.of s1).trans k4) b4 (fun a ha => (o4 a ha).imp id s1.free) (hb1.tup k4 (s1.get eD))
theorem Du : AL ["self", "place", "foot_by", "head_by", "before", "gate"] ["self", "place", "foot_by", "head_by"] (AF Er) := by walk_at "SC"
noncomputable def Lr {K : W.Frag} {mg : Str → Option Value} (T : Tx K mg) : Sp := fun vs H Q E => ∃ (b S P : Addr) (ow : List Addr) (gs : List G) (past : List (List G)) (p x y : Int), vs = [.ref b, .int p, .int x, .int y] ∧ Bch T.AN H b S P ow gs past ∧ (∀ e, B8 gs past p x y = some e → ∀ H', AI H H' → E (T.err e) none H') ∧ (∀ g, Bg gs p = some g → B8 gs past p x y = none → ∀ H' S' ow' (D : Addr), Kp b P H H' → Bch T.AN H' b S' P ow' (Ef gs p [⟨p, g.f + x, g.h + y⟩]) (past ++ [gs]) → (∀ a ∈ ow', a ∈ ow ∨ H a = none) → H' D = some (.tup [.int p, .int (g.f + x), .int (g.h + y)]) → Q (.ref D) H')
theorem Bx (T : Tx K mg) : Aj P w K mg base (CXE P w) 2 T.IH T.HV ["self", "place", "foot_by", "head_by"] (Lr T) := by
 refine T.Aw.F.okX Du (fun _ _ _ _ h => by walk_at "LN") ?_
 ·walk_at "I2"
  obtain ⟨b, S, P, ow, gs, past, p, x, y, rfl, hb, kE, k⟩ := h
  refine ⟨_, (AD (pst 4 Du (AW (pv 0) T.AH T.BB.mt (CQ T) (hr.mono (by decide)) T.BB.b .nil Al (AA (pv 1) AB)))
   (AD (pst 5 Du (An (AA (pxi AO (pv 4) AC) (AA (AV BA (pxi AO (pv 4) AC) (pv 2)) (AA (AV BA (pxi AO (pv 4) AC) (pv 3)) AB)))))
   (AD (BK (pcl T.E4 (HK T) hr Al (AA (pv 5) AB)))
   (AD (BK (AW (pv 0) T.AH T.A7.mt (CM T) (hr.mono (by decide)) T.A7.b .nil Al (AA (pv 1) (AA (BZ (AA (pv 5) AB)) AB))))
   (AE (AG (pv 5))))))), ?_⟩
  obtain ⟨dx, eb⟩ := hb.at_
  walk_at "Q"
  walk_at "RD"
  refine ⟨dx, _, eb, rfl, b, S, P, ow, gs, past, p, rfl, hb, fun hp => kE .nogate (by unfold B8; rw [GE.mpr hp]) _ (AI.refl _), fun D g hg eD => ?_⟩
  obtain ⟨hgm, hgp⟩ := B1 hg
  have le : B8 gs past p x y = (DI p (g.f + x) (g.h + y)).or (GQ past) := by unfold B8; rw [hg]
  walk_at "NX"
  walk_at "Q"
  walk_at "RD"
  refine ⟨_, SqT.of eD, _, rfl, _, SqT.of eD, _, rfl, _, rfl, _, SqT.of eD, _, rfl, _, rfl, by decide, fun q H1 n1 s1 e1 => ?_⟩
  rw [hgp] at e1
  walk_at "NX"
  walk_at "Q"
  walk_at "RD"
  refine ⟨q, p, g.f + x, g.h + y, rfl, e1, fun e he => kE e (by rw [le, he]; rfl) _ s1, fun hok => ?_⟩
  have hb1 := hb.same s1
  obtain ⟨dx, eb⟩ := hb1.at_
  walk_at "NX"
  walk_at "RD"
  refine ⟨dx, _, eb, rfl, by decide, fun l H2 n2 s2 e2 => ?_⟩
  have hb2 := hb1.same s2
  refine ⟨b, S, P, ow, gs, past, p, l, [q], [⟨p, g.f + x, g.h + y⟩], rfl, hb2, hb1.off n2, e2, .cons (s2.get e1) .nil, fun g hg => by rw [zD.mp hg], hb.std.put (CL.mp hok) (by rw [← hgp]; exact z9 (UV hgm) hb.std.len), fun h3 => kE .deeds (by rw [le, hok]; unfold GQ; rw [if_pos h3]; rfl) _ (s1.trans s2), fun h3 H4 S' ow' _ k4 b4 o4 => ?_⟩
  exact k g hg (by rw [le, hok]; unfold GQ; rw [if_neg (by lia)]; rfl) H4 S' ow' q ((Kp.of (s1.trans s2)).trans k4) b4 (fun a ha => (o4 a ha).imp id (s1.trans s2).free) (hb2.tup k4 (s2.get e1))
theorem MA : AL ["self", "place", "foot_by", "head_by"] ["self", "place", "foot_by", "head_by"] (AF Eu) := by walk_at "SC"
noncomputable def Lu {K : W.Frag} {mg : Str → Option Value} (T : Tx K mg) : Sp := fun vs H Q E => ∃ (b S P : Addr) (ow : List Addr) (gs : List G) (past : List (List G)) (p x y : Int), vs = [.ref b, .int p, .int x, .int y] ∧ Bch T.AN H b S P ow gs past ∧ (∀ e, B8 gs past p (-x) (-y) = some e → ∀ H', AI H H' → E (T.err e) none H') ∧ (∀ g, Bg gs p = some g → B8 gs past p (-x) (-y) = none → ∀ H' S' ow' (D : Addr), Kp b P H H' → Bch T.AN H' b S' P ow' (Ef gs p [⟨p, g.f + (-x), g.h + (-y)⟩]) (past ++ [gs]) → (∀ a ∈ ow', a ∈ ow ∨ H a = none) → H' D = some (.tup [.int p, .int (g.f + (-x)), .int (g.h + (-y))]) → Q (.ref D) H')
theorem Dw (T : Tx K mg) : Aj P w K mg base (CXE P w) 3 T.Iv T.HB ["self", "place", "foot_by", "head_by"] (Lu T) := by
 refine T.BU.F.okX MA (fun _ _ _ _ h => by walk_at "LN") ?_
 ·walk_at "I2"
  obtain ⟨b, S, P, ow, gs, past, p, x, y, rfl, hb, kE, k⟩ := h
  refine ⟨_, (AE (AG (AW (pv 0) T.AH T.Aw.mt (Bx T) (hr.mono (by decide)) T.Aw.b .nil Al (AA (pv 1) (AA (JJ FC (pv 2)) (AA (JJ FC (pv 3)) AB)))))), ?_⟩
  obtain ⟨dx, eb⟩ := hb.at_
  walk_at "RD"
  exact ⟨dx, _, eb, rfl, b, S, P, ow, gs, past, p, -x, -y, rfl, hb, kE, k⟩
theorem G8 : AL ["self", "many", "left"] ["self", "many"] (AF Es) := by walk_at "SC"
noncomputable def Lj {K : W.Frag} {mg : Str → Option Value} (T : Tx K mg) : Sp := fun vs H Q E => ∃ (b S P : Addr) (ow : List Addr) (gs : List G) (past : List (List G)) (n : Int), vs = [.ref b, .int n] ∧ Bch T.AN H b S P ow gs past ∧ (∀ e, OE past n = some e → E (T.err e) none H) ∧ (OE past n = none → ∀ H' S' P' ow', Kp b b H H' → Bch T.AN H' b S' P' ow' (past.getD (past.length - n.toNat) []) (past.take (past.length - n.toNat)) → (∀ a ∈ ow', a ∈ ow ∨ H a = none) → Q (.int ((past.take (past.length - n.toNat)).length : Int)) H')
theorem HG (T : Tx K mg) : Aj P w K mg base (CXE P w) 1 T.IC T.HP ["self", "many"] (Lj T) := by
 refine T.B3.F.okX G8 (fun _ _ _ _ h => by walk_at "LN") ?_
 ·walk_at "I2"
  obtain ⟨b, S, P, ow, gs, past, n, rfl, hb, kE, k⟩ := h
  refine ⟨_, (AD (AT (ptc Bc (pv 1) AC) (AE (A6 Cf rfl T.HJ (by rfl) T.CY (AA Ar AB)))
    AM)
   (AD (AT (ptc Ec (pv 1) (AK AZ (by rfl) T.Bv BP (AA (Bf (pv 0) rfl) AB))) (AE (A6 Cf rfl T.L5 (by rfl) T.Dr (AA Ar AB)))
    AM)
   (AD (pst 2 G8 (AV Bt (AK AZ (by rfl) T.Bv BP (AA (Bf (pv 0) rfl) AB)) (pv 1)))
   (AD (Kx (pv 0) (pxi Bj (Bf (pv 0) rfl) (pv 2)) rfl)
   (AD (Kx (pv 0) (GI IK (Bf (pv 0) rfl) Hy (JD (pv 2))) rfl)
   (AE (AG (pv 2)))))))), ?_⟩
  obtain ⟨dx, eb⟩ := hb.at_
  obtain ⟨ps, ep, pr, hps⟩ := hb.pa
  have lp := Paired.length pr
  have lm : (ps.map V.ref).length = past.length := by rw [z6, lp]
  unfold OE at kE k
  walk_at "Q"
  walk_at "RD"
  by_cases h1 : n < 1
  ·rw [if_pos (z5 h1)]
   rw [if_pos h1] at kE
   exact ⟨by decide, kE _ rfl⟩
  rw [if_neg (fun z => h1 (z4 z))]
  rw [if_neg h1] at kE k
  walk_at "NX"
  walk_at "Q"
  walk_at "RD"
  refine ⟨_, dx, _, eb, T.AH, T.BC, _, rfl, _, rfl, _, .inl (SqL.of ep), ?_⟩
  rw [lm]
  by_cases h2 : (past.length : Int) < n
  ·rw [if_pos (z5 h2)]
   rw [if_pos h2] at kE
   exact ⟨by decide, kE _ rfl⟩
  rw [if_neg (fun z => h2 (z4 z))]
  rw [if_neg h2] at k
  walk_at "NX"
  walk_at "Q"
  walk_at "RD"
  refine ⟨_, dx, _, eb, T.AH, T.BC, _, rfl, _, rfl, _, .inl (SqL.of ep), ?_⟩
  rw [lm]
  walk_at "NX"
  walk_at "RD"
  obtain ⟨j, hj⟩ : ∃ j : Nat, (past.length : Int) - n = j := ⟨((past.length : Int) - n).toNat, by lia⟩
  have ej : past.length - n.toNat = j := by lia
  rw [ej] at k
  have hjl : j < past.length := by lia
  obtain ⟨S', hS', gS'⟩ := Paired.get pr (z0 hjl)
  have hSm : S' ∈ ps := zT hS'
  have hSo := hps S' hSm
  obtain ⟨xs', eS'⟩ := hb.lv S' hSo.1
  have Sb : S' ≠ b := hb.neb eS' fun _ _ _ z => by cases z
  have bP : b ≠ P := N1 eb ep (by simp)
  have hix : atI (ps.map V.ref) ((past.length : Int) - n) = some (V.ref S') := by rw [hj]; exact DO hS'
  refine ⟨_, dx, _, eb, T.AH, T.BC, _, rfl, _, rfl, _, SqL.of ep, _, hix, _, dx, _, eb, T.AH, T.AU, (by show 2 < 1000; decide), ?_⟩
  refine ⟨_, dx, _, AQ, T.AH, T.BC, _, rfl, _, rfl, _, SqL.of ((AJ bP.symm).trans ep), ?_⟩
  intro P2 H2 n2 s2 e2
  have hcut : L4 (ps.map V.ref) none (some ((past.length : Int) - n)) = (ps.take j).map V.ref := by
   rw [hj]
   exact (Kv).trans (List.map_take).symm
  rw [hcut] at e2
  have nP2 : H P2 = none := by
   have h1 : P2 ≠ b := fun z => by rw [z, AQ] at n2; cases n2
   rwa [AJ h1] at n2
  have P2b : P2 ≠ b := (Ak eb nP2).symm
  have hv : (past.length : Int) - n = ((past.take j).length : Int) := by rw [List.length_take]; lia
  rw [hv]
  have kp2 : ∀ a u, a ≠ b → H a = some u → H2 a = some u := fun a u ha e => s2.get ((AJ ha).trans e)
  have kp : Kp b b H (upd H2 b (.ins T.AN dx [("standing", .ref S'), ("past", .ref P2)])) := fun a u ha _ e => (AJ ha).trans (kp2 a u ha e)
  have kt : ∀ a xs, H a = some (.tup xs) → upd H2 b (.ins T.AN dx [("standing", .ref S'), ("past", .ref P2)]) a = some (.tup xs) := fun a xs e => kp a _ (hb.neb e fun _ _ _ z => by cases z) (hb.neb e fun _ _ _ z => by cases z) e
  have kl : ∀ a ∈ ow, ∀ u, H a = some u → upd H2 b (.ins T.AN dx [("standing", .ref S'), ("past", .ref P2)]) a = some u := fun a ha u e => by
   obtain ⟨_, ea⟩ := hb.lv a ha
   have hab := hb.neb ea fun _ _ _ z => by cases z
   exact kp a u hab hab e
  refine ⟨_, dx, _, s2.get AQ, T.AH, T.BC, (by show 2 < 1000; decide), k rfl _ S' P2 (P2 :: ow) kp ?_ fun a ha => ?_⟩
  ·have eg : past.getD j [] = past[j] := by rw [zE, z0 hjl]; rfl
   rw [eg]
   refine ⟨⟨dx, AQ⟩, gS'.keep (kl S' hSo.1) kt, ⟨ps.take j, (AJ P2b).trans e2, ?_, fun a ha => ⟨zC _ (hps a (List.mem_of_mem_take ha)).1, fun z => (by rw [z] at ha; exact hb.off nP2 (hps P2 (List.mem_of_mem_take ha)).1)⟩⟩, fun z => (by rw [z, nP2] at eS'; cases eS'), zC _ hSo.1, zQ, hb.stds _ (zR hjl), fun x hx => hb.stds x (List.mem_of_mem_take hx), by rw [List.length_take]; have := hb.len; lia, fun a ha => ?_⟩
   ·exact Paired.keepM (Paired.takeP pr j) fun x y hx q => q.keep (kl x (hps x (List.mem_of_mem_take hx)).1) kt
   ·rcases zH.mp ha with z | z
    ·rw [z]; exact ⟨_, (AJ P2b).trans e2⟩
    ·obtain ⟨xs, ea⟩ := hb.lv a z
     exact ⟨xs, kl a z _ ea⟩
  ·rcases zH.mp ha with z | z
   ·rw [z]; exact .inr nP2
   ·exact .inl z
theorem Kk : AL ["self"] ["self"] (AF Dx) := by walk_at "SC"
noncomputable def K4 {K : W.Frag} {mg : Str → Option Value} (T : Tx K mg) : Sp := fun vs H Q E => ∃ (b S P : Addr) (ow : List Addr) (gs : List G) (past : List (List G)), vs = [.ref b] ∧ Bch T.AN H b S P ow gs past ∧ ∀ H' D as, H D = none → AI H H' → H' D = some (.lst (as.map V.ref)) → Aq H' as gs → Q (.ref D) H'
theorem Qe (T : Tx K mg) : Aj P w K mg base CX0 1 T.HL T.Fn ["self"] (K4 T) := by
 refine T.L8.F.ok Kk (fun _ _ _ _ h => by walk_at "LN") ?_
 ·walk_at "I2"
  obtain ⟨b, S, P, ow, gs, past, rfl, hb, k⟩ := h
  refine ⟨_, (AE (AG (A1 Ow (by rfl) T.UO R5 (AA (Bf (pv 0) rfl) AB)))), ?_⟩
  obtain ⟨dx, eb⟩ := hb.at_
  obtain ⟨as, es, ga⟩ := hb.st
  walk_at "RD"
  refine ⟨_, dx, _, eb, T.AH, T.AU, _, rfl, ?_⟩
  refine ⟨_, rfl, _, .inl (SqL.of es), fun l H' n s e => ?_⟩
  exact k H' l as n s e (ga.same s)
theorem Le : AL ["self"] ["self"] (AF Dt) := by walk_at "SC"
noncomputable def Kz {K : W.Frag} {mg : Str → Option Value} (T : Tx K mg) : Sp := fun vs H Q E => ∃ (b S P : Addr) (ow : List Addr) (gs : List G) (past : List (List G)), vs = [.ref b] ∧ Bch T.AN H b S P ow gs past ∧ Q (.int past.length) H
theorem RP (T : Tx K mg) : Aj P w K mg base CX0 1 T.Go T.GR ["self"] (Kz T) := by
 refine T.MB.F.ok Le (fun _ _ _ _ h => by walk_at "LN") ?_
 ·walk_at "I2"
  obtain ⟨b, S, P, ow, gs, past, rfl, hb, k⟩ := h
  refine ⟨_, (AE (AG (AK AZ (by rfl) T.Bv BP (AA (Bf (pv 0) rfl) AB)))), ?_⟩
  obtain ⟨dx, eb⟩ := hb.at_
  obtain ⟨ps, ep, pr, _⟩ := hb.pa
  have lp := Paired.length pr
  walk_at "RD"
  refine ⟨_, dx, _, eb, T.AH, T.BC, _, rfl, ?_⟩
  refine ⟨_, rfl, _, .inl (SqL.of ep), ?_⟩
  rw [z6, lp]
  exact k
theorem Ie : AL ["self", "places"] ["self", "places"] (AF CO) := by walk_at "SC"
theorem OZ {gs : List G} {ps : List Int} {p : Int} {g : G} (h : Bg gs p = some g) : B6 gs (ps ++ [p]) = B6 gs ps ++ [g] := by
 unfold B6
 rw [List.filterMap_append, zo, h]
 rfl
noncomputable def IB {K : W.Frag} {mg : Str → Option Value} (T : Tx K mg) : Sp := fun vs H Q E => ∃ (b S P : Addr) (ow : List Addr) (gs : List G) (past : List (List G)) (l : Addr) (ps : List Int), vs = [.ref b, .ref l] ∧ Bch T.AN H b S P ow gs past ∧ SqL K H l (ps.map V.int) ∧ ps.length < 4000 ∧ (DD ps → ∀ H', AI H H' → E (T.err .badlist) none H') ∧ (¬ DD ps → (∃ p ∈ ps, p ∉ Ab gs) → ∀ H', AI H H' → E (T.err .nogate) none H') ∧ (¬ DD ps → (∀ p ∈ ps, p ∈ Ab gs) → ∀ D H' as, H D = none → AI H H' → H' D = some (.lst (as.map V.ref)) → Aq H' as (B6 gs ps) → Q (.ref D) H')
theorem Dk (T : Tx K mg) : Aj P w K mg base (CXE P w) 2 T.EU T.Do ["self", "places"] (IB T) := by
 refine T.BQ.F.okX Ie (fun _ _ _ _ h => by walk_at "LN") ?_
 ·walk_at "I2"
  obtain ⟨b, S, P, ow, gs, past, l, ps, rfl, hb, hl, h4, kE, kN, k⟩ := h
  refine ⟨_, (AD (BK (pcl T.Fv (KD T) hr Al (AA (pv 1) AB)))
   (AE (AG (RU rfl (⟨rfl, by decide +kernel, by decide +kernel, by decide +kernel, rfl, by decide +kernel, by with_unfolding_all rfl, by rfl, by rfl, by rfl⟩ : A8 _ _ "place" ["self"] [0]) (Cd (pv 1)) (fun _ _ _ _ _ _ hp => (Ro (pv 1) T.AH T.BB.mt (CQ T) (hr.mono (by decide)) T.BB.b .nil hp (AA (pv 0) AB))) (fun _ _ _ _ => Gb))))), ?_⟩
  delta J8
  refine ⟨l, ps, rfl, hl, h4, kE, fun hg H1 s1 => ⟨⟨_, s1.seq hl⟩, fun D nD => ?_⟩⟩
  have ll : ps.length ≤ 40 := Nat.le_of_not_lt fun z => hg (.inr (.inl z))
  refine Mv (xs := ps.map V.int) (fun i ys H' => ∃ as : List Addr, ys = as.map V.ref ∧ AI H1 H' ∧ H' D = some (.lst ys) ∧ (∀ p ∈ ps.take i, p ∈ Ab gs) ∧ Aq H' as (B6 gs (ps.take i))) ⟨[], rfl, A0 nD, AQ, fun _ h => absurd h (by simp), .nil⟩ (fun _ _ H' _ ⟨_, _, s2, _⟩ => s2.seq (s1.seq hl)) ?_ ?_
  ·rintro i v ys H2 hx hy ⟨as, rfl, s2, e2, al, ga⟩
   have hi : i < ps.length := by
    have := (z8.mp hx).1
    rwa [z6] at this
   have ev : v = V.int ps[i] := by
    rw [zG, z0 hi] at hx
    exact (zI hx).symm
   subst ev
   have et : ps.take (i + 1) = ps.take i ++ [ps[i]] := zK hi
   have hm := zR hi
   have hb2 := hb.same (s1.trans s2)
   obtain ⟨dx, eb⟩ := hb2.at_
   delta Qd qB
   refine ⟨dx, _, eb, rfl, b, S, P, ow, gs, past, ps[i], rfl, hb2, fun hn => kN hg ⟨_, hm, hn⟩ _ (s1.trans s2), fun D' g hgo eD' => ?_⟩
   rw [z6] at hy ⊢
   refine K8.of (by rw [PySem.sizeLine_eq]; lia) hi (by rw [z6]; exact hy) e2 ⟨as ++ [D'], by rw [zj]; rfl, s2.updFresh nD, AQ, ?_, ?_⟩
   ·rw [et]
    intro p hp
    rcases zg.mp hp with z | z
    ·exact al p z
    ·rw [zD.mp z]
     have := B1 hgo
     exact zX.mpr ⟨g, this.1, this.2⟩
   ·rw [et, OZ hgo]
    exact (Aq.snoc ga eD').fresh (fun ys z => by rw [e2] at z; cases z)
  ·rintro ys H2 hy ⟨as, rfl, s2, e2, al, ga⟩
   rw [z6, zm] at al ga
   exact k hg al D H2 as (s1.free nD) (s1.trans s2) e2 ga
theorem CF : AL ["self", "places", "gates"] ["self", "places"] (AF Bd) := by walk_at "SC"
noncomputable def Fg {K : W.Frag} {mg : Str → Option Value} (T : Tx K mg) : Sp := fun vs H Q E => ∃ (b S P : Addr) (ow : List Addr) (gs : List G) (past : List (List G)) (l : Addr) (ps : List Int), vs = [.ref b, .ref l] ∧ Bch T.AN H b S P ow gs past ∧ SqL K H l (ps.map V.int) ∧ ps.length < 4000 ∧ (DD ps → ∀ H', AI H H' → E (T.err .badlist) none H') ∧ (¬ DD ps → (∃ p ∈ ps, p ∉ Ab gs) → ∀ H', AI H H' → E (T.err .nogate) none H') ∧ (¬ DD ps → (∀ p ∈ ps, p ∈ Ab gs) → ps.length < 2 → ∀ H', AI H H' → E (T.err .few) none H') ∧ (¬ DD ps → (∀ p ∈ ps, p ∈ Ab gs) → 2 ≤ ps.length → ∀ D H' as, H D = none → AI H H' → H' D = some (.lst (as.map V.ref)) → Aq H' as (B6 gs ps) → Q (.ref D) H')
theorem CB (T : Tx K mg) : Aj P w K mg base (CXE P w) 3 T.Cg T.CC ["self", "places"] (Fg T) := by
 refine T.A5.F.okX CF (fun _ _ _ _ h => by walk_at "LN") ?_
 ·walk_at "I2"
  obtain ⟨b, S, P, ow, gs, past, l, ps, rfl, hb, hl, h4, kE, kN, kF, k⟩ := h
  refine ⟨_, (AD (pst 2 CF (AW (pv 0) T.AH T.BQ.mt (Dk T) (hr.mono (by decide)) T.BQ.b .nil Al (AA (pv 1) AB)))
   (AD (AT (ptc Bc (AK AZ (by rfl) T.Bv BP (AA (pv 2) AB)) AC) (AE (A6 Cf rfl T.Qf (by rfl) T.Kq (AA Ar AB)))
    AM)
   (AE (AG (pv 2))))), ?_⟩
  obtain ⟨dx, eb⟩ := hb.at_
  walk_at "RD"
  refine ⟨dx, _, eb, rfl, b, S, P, ow, gs, past, l, ps, rfl, hb, hl, h4, kE, kN, fun hg hs D H1 as n1 s1 e1 ga => ?_⟩
  first | refine ⟨_, .inl (SqL.of e1), ?_⟩ | refine ⟨_, rfl, _, .inl (SqL.of e1), ?_⟩
  have la := ga.len
  have lp := GY hs
  rw [z6]
  by_cases h2 : ps.length < 2
  ·rw [if_pos (z5 (by lia))]
   exact ⟨by decide, kF hg hs h2 _ s1⟩
  ·rw [if_neg (fun z => h2 (by have := z4 z; lia))]
   exact k hg hs (by lia) D H1 as n1 s1 e1 ga
theorem JM : AL ["self", "places"] ["self", "places"] (AF Cj) := by walk_at "SC"
noncomputable def JO {K : W.Frag} {mg : Str → Option Value} (T : Tx K mg) : Sp := fun vs H Q E => ∃ (b S P : Addr) (ow : List Addr) (gs : List G) (past : List (List G)) (l : Addr) (ps : List Int), vs = [.ref b, .ref l] ∧ Bch T.AN H b S P ow gs past ∧ SqL K H l (ps.map V.int) ∧ ps.length < 4000 ∧ (DD ps → ∀ H', AI H H' → E (T.err .badlist) none H') ∧ (¬ DD ps → (∃ p ∈ ps, p ∉ Ab gs) → ∀ H', AI H H' → E (T.err .nogate) none H') ∧ (¬ DD ps → (∀ p ∈ ps, p ∈ Ab gs) → ∀ D H', AI H H' → ML H' D (B6 gs ps) → Q (.ref D) H')
theorem EJ (T : Tx K mg) : Aj P w K mg base (CXE P w) 9 T.Fb T.EQ ["self", "places"] (JO T) := by
 refine T.BX.F.okX JM (fun _ _ _ _ h => by walk_at "LN") ?_
 ·walk_at "I2"
  obtain ⟨b, S, P, ow, gs, past, l, ps, rfl, hb, hl, h4, kE, kN, k⟩ := h
  refine ⟨_, (AE (AG (pcl T.FV (JQ T) hr Ag (AA (AW (pv 0) T.AH T.BQ.mt (Dk T) (hr.mono (by decide)) T.BQ.b .nil Al (AA (pv 1) AB)) AB)))), ?_⟩
  obtain ⟨dx, eb⟩ := hb.at_
  walk_at "RD"
  refine ⟨dx, _, eb, rfl, b, S, P, ow, gs, past, l, ps, rfl, hb, hl, h4, kE, kN, fun hg hs D H1 as n1 s1 e1 ga => ?_⟩
  have lp := GY hs
  exact ⟨D, as, B6 gs ps, rfl, SqL.of e1, ga, by show (Ab _).Nodup; rw [Br hs]; exact Classical.byContradiction fun z => hg (.inr (.inr z)), by rw [lp]; exact Nat.le_of_not_lt fun z => hg (.inr (.inl z)), fun z => hg (.inl (by rw [← Br hs, z]; rfl)), fun g hg => hb.std.ok g (JS hg), fun D2 H2 s2 th => k hg hs D2 H2 (s1.trans s2) th⟩
theorem JK : AL ["self", "places"] ["self", "places"] (AF CT) := by walk_at "SC"
noncomputable def JF {K : W.Frag} {mg : Str → Option Value} (T : Tx K mg) : Sp := fun vs H Q E => ∃ (b S P : Addr) (ow : List Addr) (gs : List G) (past : List (List G)) (l : Addr) (ps : List Int), vs = [.ref b, .ref l] ∧ Bch T.AN H b S P ow gs past ∧ SqL K H l (ps.map V.int) ∧ ps.length < 4000 ∧ (DD ps → ∀ H', AI H H' → E (T.err .badlist) none H') ∧ (¬ DD ps → (∃ p ∈ ps, p ∉ Ab gs) → ∀ H', AI H H' → E (T.err .nogate) none H') ∧ (¬ DD ps → (∀ p ∈ ps, p ∈ Ab gs) → ps.length < 2 → ∀ H', AI H H' → E (T.err .few) none H') ∧ (¬ DD ps → (∀ p ∈ ps, p ∈ Ab gs) → 2 ≤ ps.length → ∀ D H', AI H H' → Na true H' D (B6 gs ps) → Q (.ref D) H')
theorem B9 (T : Tx K mg) : Aj P w K mg base (CXE P w) 8 T.Ea T.De ["self", "places"] (JF T) := by
 refine T.A4.F.okX JK (fun _ _ _ _ h => by walk_at "LN") ?_
 ·walk_at "I2"
  obtain ⟨b, S, P, ow, gs, past, l, ps, rfl, hb, hl, h4, kE, kN, kF, k⟩ := h
  refine ⟨_, (AE (AG (pcl T.ED (IT T) hr Ag (AA (AW (pv 0) T.AH T.A5.mt (CB T) (hr.mono (by decide)) T.A5.b .nil Al (AA (pv 1) AB)) AB)))), ?_⟩
  obtain ⟨dx, eb⟩ := hb.at_
  walk_at "RD"
  refine ⟨dx, _, eb, rfl, b, S, P, ow, gs, past, l, ps, rfl, hb, hl, h4, kE, kN, kF, fun hg hs h2 D H1 as n1 s1 e1 ga => ?_⟩
  have lp := GY hs
  exact ⟨D, as, B6 gs ps, rfl, SqL.of e1, ga, by show (Ab _).Nodup; rw [Br hs]; exact Classical.byContradiction fun z => hg (.inr (.inr z)), by lia, by rw [lp]; exact Nat.le_of_not_lt fun z => hg (.inr (.inl z)), fun g hg => hb.std.ok g (JS hg), fun D2 H2 s2 th => k hg hs h2 D2 H2 (s1.trans s2) th⟩
theorem IQ : AL ["self", "places"] ["self", "places"] (AF CU) := by walk_at "SC"
noncomputable def IL {K : W.Frag} {mg : Str → Option Value} (T : Tx K mg) : Sp := fun vs H Q E => ∃ (b S P : Addr) (ow : List Addr) (gs : List G) (past : List (List G)) (l : Addr) (ps : List Int), vs = [.ref b, .ref l] ∧ Bch T.AN H b S P ow gs past ∧ SqL K H l (ps.map V.int) ∧ ps.length < 4000 ∧ (DD ps → ∀ H', AI H H' → E (T.err .badlist) none H') ∧ (¬ DD ps → (∃ p ∈ ps, p ∉ Ab gs) → ∀ H', AI H H' → E (T.err .nogate) none H') ∧ (¬ DD ps → (∀ p ∈ ps, p ∈ Ab gs) → ps.length < 2 → ∀ H', AI H H' → E (T.err .few) none H') ∧ (¬ DD ps → (∀ p ∈ ps, p ∈ Ab gs) → 2 ≤ ps.length → ∀ D H', AI H H' → Na false H' D (B6 gs ps) → Q (.ref D) H')
theorem CA (T : Tx K mg) : Aj P w K mg base (CXE P w) 8 T.EM T.Dj ["self", "places"] (IL T) := by
 refine T.A3.F.okX IQ (fun _ _ _ _ h => by walk_at "LN") ?_
 ·walk_at "I2"
  obtain ⟨b, S, P, ow, gs, past, l, ps, rfl, hb, hl, h4, kE, kN, kF, k⟩ := h
  refine ⟨_, (AE (AG (pcl T.EZ (Hz T) hr Ag (AA (AW (pv 0) T.AH T.A5.mt (CB T) (hr.mono (by decide)) T.A5.b .nil Al (AA (pv 1) AB)) AB)))), ?_⟩
  obtain ⟨dx, eb⟩ := hb.at_
  walk_at "RD"
  refine ⟨dx, _, eb, rfl, b, S, P, ow, gs, past, l, ps, rfl, hb, hl, h4, kE, kN, kF, fun hg hs h2 D H1 as n1 s1 e1 ga => ?_⟩
  have lp := GY hs
  exact ⟨D, as, B6 gs ps, rfl, SqL.of e1, ga, by show (Ab _).Nodup; rw [Br hs]; exact Classical.byContradiction fun z => hg (.inr (.inr z)), by lia, by rw [lp]; exact Nat.le_of_not_lt fun z => hg (.inr (.inl z)), fun g hg => hb.std.ok g (JS hg), fun D2 H2 s2 th => k hg hs h2 D2 H2 (s1.trans s2) th⟩
theorem L9 : AL ["self"] ["self"] (AF E6) := by walk_at "SC"
noncomputable def Lq {K : W.Frag} {mg : Str → Option Value} (T : Tx K mg) : Sp := fun vs H Q E => ∃ (b S P : Addr) (ow : List Addr) (gs : List G) (past : List (List G)), vs = [.ref b] ∧ Bch T.AN H b S P ow gs past ∧ LM.Tbl H Dd F8 N4 ∧ ((gs.length = 0 ∨ 12 < gs.length) → E (T.err .size) none H) ∧ (1 ≤ gs.length → gs.length ≤ 12 → ∀ D H' L q t sg, H L = none → S8 Dd H H' → LM.Tbl H' Dd F8 N4 → Qk H' D gs L q t sg → Q (.ref D) H')
theorem ME (T : Tx K mg) : Aj P w K mg base (CXE P w) 10 T.IA T.HI ["self"] (Lq T) := by
 refine T.Ev.F.okX L9 (fun _ _ _ _ h => by walk_at "LN") ?_
 ·walk_at "I2"
  obtain ⟨b, S, P, ow, gs, past, rfl, hb, tb, kE, k⟩ := h
  refine ⟨_, (AD (AT (Ki (ptc Az (AK AZ (by rfl) T.Bv BP (AA (Bf (pv 0) rfl) AB)) AC) (Hu (ptc Ec (AK AZ (by rfl) T.Bv BP (AA (Bf (pv 0) rfl) AB)) (Aa (v := .int (12)) (by rfl) T.Lz T.Lx)))).pt (AE (A6 Cf rfl T.N0 (by rfl) T.GH (AA Ar AB)))
    AM)
   (AE (AG (pcl T.IS (Ll T) hr Ag (AA (Bf (pv 0) rfl) AB))))), ?_⟩
  obtain ⟨dx, eb⟩ := hb.at_
  obtain ⟨as, es, ga⟩ := hb.st
  walk_at "RD"
  have la := ga.len
  refine ⟨_, dx, _, eb, T.AH, T.AU, _, rfl, S, rfl, _, .inl (SqL.of es), ?_⟩
  rw [z6, la]
  by_cases h0 : gs.length = 0
  ·rw [if_pos (z5 (by lia))]
   exact ⟨by decide, kE (.inl h0)⟩
  ·rw [if_neg (fun z => h0 (by have := z4 z; lia))]
   refine ⟨_, dx, _, eb, T.AH, T.AU, _, rfl, S, rfl, _, .inl (SqL.of es), ?_⟩
   rw [z6, la]
   by_cases h12 : 12 < gs.length
   ·rw [if_pos (z5 (by lia))]
    exact ⟨by decide, kE (.inr h12)⟩
   ·rw [if_neg (fun z => h12 (by have := z4 z; lia))]
    refine ⟨_, dx, _, eb, T.AH, T.AU, _, rfl, ?_⟩
    exact ⟨S, as, gs, rfl, SqL.of es, ga, hb.std.nd, by lia, by lia, hb.std.ok, tb, k (by lia) (by lia)⟩
theorem KS : AL ["self", "throw"] ["self", "throw"] (AF DX) := by walk_at "SC"
noncomputable def KR {K : W.Frag} {mg : Str → Option Value} (T : Tx K mg) : Sp := fun vs H Q E => ∃ (b S P : Addr) (ow : List Addr) (gs : List G) (past : List (List G)) (q : Addr) (x y z v : Int), vs = [.ref b, .ref q] ∧ Bch T.AN H b S P ow gs past ∧ H q = some (.tup [.int x, .int y, .int z, .int v]) ∧ (QV x y z v → E (T.err .badthrow) none H) ∧ (¬ QV x y z v → ∀ D H', H D = none → AI H H' → H' D = some (.lst ((Ab (gs.filter (SF x y z v))).map V.int)) → Q (.ref D) H')
theorem KA (T : Tx K mg) : Aj P w K mg base (CXE P w) 6 T.GF T.Fc ["self", "throw"] (KR T) := by
 refine T.DG.F.okX KS (fun _ _ _ _ h => by walk_at "LN") ?_
 ·walk_at "I2"
  obtain ⟨b, S, P, ow, gs, past, q, x, y, z, v, rfl, hb, hq, kE, k⟩ := h
  refine ⟨_, (AD (BK (pcl T.G5 (Kf T) hr Al (AA (pv 1) AB)))
   (AE (AG (pcl T.Ch (EV T) hr Ag (AA (pv 1) (AA (Bf (pv 0) rfl) AB)))))), ?_⟩
  obtain ⟨dx, eb⟩ := hb.at_
  obtain ⟨as, es, ga⟩ := hb.st
  walk_at "RD"
  refine ⟨q, x, y, z, v, rfl, hq, kE, fun nb => ?_⟩
  refine ⟨_, dx, _, eb, T.AH, T.AU, _, rfl, ?_⟩
  exact ⟨q, S, x, y, z, v, as, gs, rfl, hq, nb, SqL.of es, ga, hb.std.len, hb.std.ok, k nb⟩
theorem LJ : AL ["text"] ["text"] (AF Ds) := by walk_at "SC"
noncomputable def PC (c : Nat) : Bool := decide (48 ≤ c ∧ c ≤ 57)
theorem U9 {c : Nat} : decide (c ∈ [48, 49, 50, 51, 52, 53, 54, 55, 56, 57]) = PC c := by
 unfold PC
 refine decide_eq_decide.mpr ?_
 simp only [zH, List.not_mem_nil, or_false]
 omega
theorem Rx {l : List Nat} : (l.map PC).all id = decide (∀ c ∈ l, 48 ≤ c ∧ c ≤ 57) := by
 rw [qD, List.all_map, zv, decide_eq_true_eq]
 exact ⟨fun h c hc => z4 (h c hc), fun h c hc => z5 (h c hc)⟩
theorem SW {l : List Nat} (h : ∀ c ∈ l, c < 128) : (tx l).cps.all (· < 128) = true := by
 show l.toArray.all (· < 128) = true
 rw [List.all_toArray, zv]
 exact fun c hc => z5 (h c hc)
theorem U1 {l : List Nat} {i : Nat} (h : i < l.length) : sg1 (tx l) i = .str (tx [l[i]]) := by
 unfold sg1
 congr 2
 show #[l.toArray.getD i 0] = #[l[i]]
 rw [zS, List.getElem?_toArray, z0 h]
 rfl
theorem txz {l : List Nat} (h : l.length ≤ 1000000) : (tx l).length ≤ sizeLine := by rw [E8, PySem.sizeLine_eq]; lia
noncomputable def LW (K : W.Frag) : Sp := fun vs H Q _ => ∃ l : List Nat, vs = [.str (tx l)] ∧ (∀ c ∈ l, c < 128) ∧ l.length ≤ 100000 ∧ ∀ H', AI H H' → Q (.bl (decide (1 ≤ l.length ∧ l.length ≤ 9 ∧ ∀ c ∈ l, 48 ≤ c ∧ c ≤ 57))) H'
theorem Kg (T : Tx K mg) : Aj P w K mg base CX0 1 T.G6 T.F9 ["text"] (LW K) := by
 refine T.HM.F.ok LJ (fun _ _ _ _ h => by walk_at "LN") ?_
 ·walk_at "I2"
  obtain ⟨l, rfl, asc, hz, k⟩ := h
  refine ⟨_, (AD (AT (Ki (ptc Bc (AK JH (by rfl) T.Bv BP (AA (pv 0) AB)) AC) (Hu (ptc Ec (AK JH (by rfl) T.Bv BP (AA (pv 0) AB)) (Aa (v := .int (9)) (by rfl) T.KY T.K0)))).pt (AE (AG S6))
    AM)
   (AE (AG (AK (N2 (by rfl)) (by rfl) T.TB Rh (AA (Ib rfl (⟨rfl, by decide +kernel, by decide +kernel, by decide +kernel, rfl, by decide +kernel, by with_unfolding_all rfl, by rfl, by rfl, by rfl⟩ : A8 _ _ "sign" [] []) (Vd (pv 0)) (fun _ _ _ _  => (NR QT (pv 0) (Aa (v := .str "0123456789") (by rfl) T.P9 T.P1) (by with_unfolding_all rfl))) (fun _ _ _ _ => Gb)) AB))))), ?_⟩
  walk_at "Q"
  walk_at "RD"
  have hz2 : (tx l).length ≤ sizeLine := txz (by lia)
  refine ⟨hz2, ?_⟩
  rw [E8] at hz2 ⊢
  by_cases h1 : l.length < 1
  ·rw [if_pos (z5 (by lia))]
   rw [zV (by lia)] at k
   exact k _ (AI.refl _)
  rw [if_neg (fun z => h1 (by have := z4 z; lia))]
  refine ⟨hz2, ?_⟩
  by_cases h9 : 9 < l.length
  ·rw [if_pos (z5 (by lia))]
   rw [zV (by lia)] at k
   exact k _ (AI.refl _)
  rw [if_neg (fun z => h9 (by have := z4 z; lia))]
  walk_at "NX"
  delta iStr
  refine ⟨SW asc, fun D nD => ?_⟩
  refine Ri (fun i ys H' => AI H H' ∧ H' D = some (.lst ys) ∧ ys = ((l.take i).map PC).map V.bl) ⟨A0 nD, AQ, rfl⟩ ?_ ?_
  ·rintro i ys H1 hi hy ⟨s1, e1, e2⟩
   have hi : i < l.length := hi
   have es : (tx l).cps.size = l.length := zJ ..
   rw [U1 hi]
   walk_at "RD"
   rw [o_fig, Tu, U9]
   refine K8.of (by rw [es]; exact hz2) (by rw [es]; exact hi) hy e1 ⟨s1.updFresh nD, AQ, ?_⟩
   rw [e2, zK hi, zj, zj]
   rfl
  ·rintro ys H1 hy ⟨s1, e1, e2⟩
   have es : (tx l).cps.size = l.length := zJ ..
   rw [es, zm] at e2
   rw [e2] at e1
   refine ⟨_, SqL.of e1, ?_⟩
   rw [Rx]
   have := k _ s1
   rw [show decide (1 ≤ l.length ∧ l.length ≤ 9 ∧ ∀ c ∈ l, 48 ≤ c ∧ c ≤ 57) = decide (∀ c ∈ l, 48 ≤ c ∧ c ≤ 57) from decide_eq_decide.mpr ⟨fun z => z.2.2, fun z => ⟨by lia, by lia, z⟩⟩] at this
   exact this
theorem DJ : AL ["text", "figures"] ["text"] (AF D5) := by walk_at "SC"
theorem QZ : Str.ofString "0" = tx [48] := by rfl
theorem R7 : Str.ofString "-" = tx [45] := by rfl
theorem tyS {K : W.Frag} {x : Str} {H : Hp} : tyV K "str" (.str x) H := rfl
noncomputable def LF {K : W.Frag} {mg : Str → Option Value} (T : Tx K mg) : Sp := fun vs H Q E => ∃ l : List Nat, vs = [.str (tx l)] ∧ (∀ c ∈ l, c < 128) ∧ l.length ≤ 100000 ∧ (rdN l = none → ∀ H', AI H H' → E (T.err .badrow) none H') ∧ ∀ n, rdN l = some n → ∀ H', AI H H' → Q (.int n) H'
theorem B5 (T : Tx K mg) : Aj P w K mg base (CXE P w) 2 T.HW T.Fx ["text"] (LF T) := by
 refine T.Bw.F.okX DJ (fun _ _ _ _ h => by walk_at "LN") ?_
 ·walk_at "I2"
  obtain ⟨l, rfl, asc, hz, kE, k⟩ := h
  refine ⟨_, (AD (AT (ptc Az (pv 0) Ar) (AE (AG AC))
    AM)
   (AD (pst 1 DJ (pv 0))
   (AD (AT (Ju (PJ PySem.F.plainAttrs_str PySem.F.slot_str_startswith PySem.F.type_str_startswith Me (pv 0) (AA Ar AB))) (AE (pst 1 DJ (GI TZ (pv 0) (JD AC) Hy)))
    AM)
   (AD (AT (Ki (Q3 (Ju (pcl T.HM (Kg T) hr Ag (AA (pv 1) AB)))) (Hu (Ju (PJ PySem.F.plainAttrs_str PySem.F.slot_str_startswith PySem.F.type_str_startswith Me (pv 1) (AA Ar AB))))).pt (AE (A6 Cf rfl T.OI (by rfl) T.Im (AA Ar AB)))
    AM)
   (AE (AG (A1 MH (by rfl) T.EG CH (AA (pv 0) AB)))))))), ?_⟩
  have hz2 : (tx l).length ≤ sizeLine := txz (by lia)
  walk_at "Q"
  walk_at "RD"
  rw [QZ]
  by_cases h0 : l = [48]
  ·rw [if_pos (z5 (by rw [h0]))]
   exact k 0 (by unfold rdN; rw [if_pos h0]) _ (AI.refl _)
  rw [if_neg (fun z => h0 (M7.mp (z4 z)))]
  walk_at "NX"
  walk_at "Q"
  walk_at "RD"
  walk_at "NX"
  walk_at "Q"
  have bl : (bare l).length ≤ l.length := by
   unfold bare
   split
   ·rw [zh]; lia
   ·lia
  have bm : ∀ c ∈ bare l, c ∈ l := fun c hc => by
   unfold bare at hc
   split at hc
   ·exact List.mem_of_mem_drop hc
   ·exact hc
  have rest : M [some (.str (tx l)), some (.str (tx (bare l)))] H := by
   refine hM _ _ ?_
   clear hM M
   walk_at "Q"
   walk_at "RD"
   refine ⟨bare l, rfl, fun c hc => asc c (bm c hc), by lia, fun H1 s1 => ⟨_, rfl, ?_⟩⟩
   by_cases hf : 1 ≤ (bare l).length ∧ (bare l).length ≤ 9 ∧ ∀ c ∈ bare l, 48 ≤ c ∧ c ≤ 57
   ·rw [z5 hf, if_neg (by decide)]
    delta tBM NU
    refine ⟨tyS, ?_⟩
    rw [QZ, LG]
    by_cases hh : (bare l).head? = some 48
    ·rw [if_pos (by rw [hh]; rfl)]
     exact ⟨by decide, kE (by unfold rdN; rw [if_neg h0, if_neg (fun z => z.2.2.2 hh)]) _ s1⟩
    ·rw [if_neg (fun z => hh (by simpa using z))]
     walk_at "NX"
     walk_at "RD"
     have hr : rdN l = some (if OF l then -(NumText.digitsVal (bare l) : Int) else NumText.digitsVal (bare l)) := by
      unfold rdN
      rw [if_neg h0, if_pos ⟨hf.1, hf.2.1, hf.2.2, hh⟩]
     have hb0 : bare l ≠ [] := fun z => by rw [z] at hf; exact absurd hf.1 (by simp)
     refine ⟨_, ?_, by rw [E8]; have := hf.2.1; unfold bare at this; split at this <;> (try rw [zh] at this) <;> lia, k _ hr _ s1⟩
     by_cases hn : OF l = true
     ·rw [if_pos hn]
      have e : (tx l).cps.toList = 45 :: bare l := by
       show l = _
       unfold bare
       rw [if_pos hn]
       unfold OF at hn
       cases l with
       | nil => cases hn
       | cons a r =>
        have : a = 45 := by simpa using hn
        rw [this]
        rfl
      exact intText_neg e hf.2.2 hb0 (by rw [E8]; have : l.length = (bare l).length + 1 := congrArg List.length e; lia)
     ·rw [if_neg hn]
      have e : bare l = l := by unfold bare; rw [if_neg hn]
      have h2 := hf.2.2
      rw [e] at h2 hb0 ⊢
      exact intText_digits (x := tx l) h2 hb0 (by rw [E8]; rw [e] at hf; lia)
   ·rw [zV hf, if_pos (by decide)]
    exact ⟨by decide, kE (by unfold rdN; rw [if_neg h0, if_neg (fun z => hf ⟨z.1, z.2.1, z.2.2.1⟩)]) _ s1⟩
  clear hM
  delta tBM NU
  refine ⟨tyS, ?_⟩
  rw [R7, LG]
  by_cases hn : OF l = true
  ·have eb : bare l = l.drop 1 := by unfold bare; rw [if_pos hn]
   rw [eb] at rest
   unfold OF at hn
   rw [if_pos hn]
   refine ⟨_, rfl, hz2, ?_⟩
   rw [show (some 1 : Option Int) = some ((1 : Nat) : Int) from rfl, Og]
   exact rest
  ·have eb : bare l = l := by unfold bare; rw [if_neg hn]
   rw [eb] at rest
   unfold OF at hn
   rw [if_neg hn]
   exact rest
theorem EI : AL ["text", "parts"] ["text"] (AF Cs) := by walk_at "SC"
theorem o_sl : Str.ofString "/" = tx [47] := by rfl
theorem GP {c : Nat} : ∀ {l : List Nat} {p : List Nat}, p ∈ Bu c l → (∀ x ∈ p, x ∈ l) ∧ p.length ≤ l.length
 | [], p, h => by
  rw [zD.mp h]
  exact ⟨fun _ z => z, zB _⟩
 | a :: r, p, h => by
  unfold Bu at h
  split at h
  ·rcases zH.mp h with z | z
   ·rw [z]; exact ⟨fun _ z => absurd z (by simp), zc _⟩
   ·have := GP z
    exact ⟨fun x hx => zC _ (this.1 x hx), by rw [zU]; lia⟩
  ·split at h
   ·rename_i e
    exact absurd e (O4 _ _)
   ·rename_i q qs e
    have hq : q ∈ Bu c r := by rw [e]; exact zQ
    rcases zH.mp h with z | z
    ·have := GP hq
     rw [z]
     refine ⟨fun x hx => ?_, by rw [zU, zU]; lia⟩
     rcases zH.mp hx with w | w
     ·rw [w]; exact zQ
     ·exact zC _ (this.1 x w)
    ·have hp : p ∈ Bu c r := by rw [e]; exact zC _ z
     have := GP hp
     exact ⟨fun x hx => zC _ (this.1 x hx), by rw [zU]; lia⟩
noncomputable def Jf {K : W.Frag} {mg : Str → Option Value} (T : Tx K mg) : Sp := fun vs H Q E => ∃ l : List Nat, vs = [.str (tx l)] ∧ (∀ c ∈ l, c < 128) ∧ l.length ≤ 100000 ∧ (rdF l = none → ∀ H', AI H H' → E (T.err .badrow) none H') ∧ ∀ x y, rdF l = some (x, y) → ∀ D H', H D = none → AI H H' → H' D = some (.tup [.int x, .int y]) → Q (.ref D) H'
theorem Ji (T : Tx K mg) : Aj P w K mg base (CXE P w) 3 T.FS T.ET ["text"] (Jf T) := by
 refine T.FP.F.okX EI (fun _ _ _ _ h => by walk_at "LN") ?_
 ·walk_at "I2"
  obtain ⟨l, rfl, asc, hz, kE, k⟩ := h
  refine ⟨_, (AD (pst 1 EI (PJ PySem.F.plainAttrs_str PySem.F.slot_str_split PySem.F.type_str_split Q5 (pv 0) (AA Ar AB)))
   (AD (AT (ptc Ec (AK AZ (by rfl) T.Bv BP (AA (pv 1) AB)) AC) (AE (A6 Cf rfl T.OI (by rfl) T.Im (AA Ar AB)))
    AM)
   (AD (AT (ptc Az (AK AZ (by rfl) T.Bv BP (AA (pv 1) AB)) AC) (AE (AG (An (AA (pcl T.Bw (B5 T) hr Al (AA (pv 0) AB)) (AA AC AB)))))
    AM)
   (AE (AG (An (AA (pcl T.Bw (B5 T) hr Al (AA (pxi Bj (pv 1) AC) AB)) (AA (pcl T.Bw (B5 T) hr Al (AA (pxi Bj (pv 1) AC) AB)) AB)))))))), ?_⟩
  walk_at "Q"
  delta tBM Qz
  refine ⟨tyS, l, rfl, 47, rfl, by rw [PySem.sizeLine_eq]; lia, fun P H1 n1 s1 e1 => ?_⟩
  walk_at "NX"
  have lc := LH 47 l
  have asp : ∀ p ∈ Bu 47 l, (∀ c ∈ p, c < 128) ∧ p.length ≤ 100000 := fun p hp => ⟨fun c hc => asc c ((GP hp).1 c hc), by have := (GP hp).2; lia⟩
  have ef : rdF l = match Bu 47 l with | [_] => (rdN l).map fun x => (x, 1) | [a, b] => (match rdN a, rdN b with | some x, some y => some (x, y) | _, _ => none) | _ => none := rfl
  have hne := O4 47 l
  generalize Bu 47 l = ps at *
  walk_at "Q"
  walk_at "RD"
  refine ⟨_, .inl (SqL.of e1), ?_⟩
  rw [z6]
  match ps, hne with
  | [p], _ =>
   rw [if_neg (by simp)]
   walk_at "NX"
   walk_at "Q"
   walk_at "RD"
   refine ⟨_, .inl (SqL.of e1), ?_⟩
   rw [if_pos (by simp)]
   refine ⟨l, rfl, asc, hz, fun h H2 s2 => kE (by rw [ef, h]; rfl) _ (s1.trans s2), fun n hn H2 s2 => ⟨by decide, fun D H3 n3 s3 e3 => ?_⟩⟩
   exact k n 1 (by rw [ef, hn]; rfl) D H3 (s1.free (s2.free n3)) (s1.trans (s2.trans s3)) e3
  | [p, q], _ =>
   rw [if_neg (by simp)]
   walk_at "NX"
   walk_at "Q"
   walk_at "RD"
   refine ⟨_, .inl (SqL.of e1), ?_⟩
   rw [if_neg (by simp)]
   walk_at "NX"
   walk_at "RD"
   have hp := asp p (by simp)
   have hq := asp q (by simp)
   refine ⟨_, SqL.of e1, _, rfl, p, rfl, hp.1, hp.2, fun h H2 s2 => kE (by rw [ef]; simp only [h]) _ (s1.trans s2), fun x hx H2 s2 => ?_⟩
   refine ⟨_, SqL.of (s2.get e1), _, rfl, q, rfl, hq.1, hq.2, fun h H3 s3 => kE (by rw [ef]; simp only [hx, h]) _ (s1.trans (s2.trans s3)), fun y hy H3 s3 => ⟨by decide, fun D H4 n4 s4 e4 => ?_⟩⟩
   exact k x y (by rw [ef]; simp only [hx, hy]) D H4 (s1.free (s2.free (s3.free n4))) (s1.trans (s2.trans (s3.trans s4))) e4
  | p :: q :: r :: rs, _ =>
   rw [if_pos (z5 (by simp only [zU]; lia))]
   exact ⟨by decide, kE (by rw [ef]) _ s1⟩
theorem SK : AL ["_law_script", "_law_k"] ["_law_script", "_law_k"] (AF Op) := by walk_at "SC"
noncomputable def GX (K : W.Frag) : Sp := fun vs H Q _ => ∃ (a : Addr) (k : Int) (ns : List Int), vs = [.ref a, .int k] ∧ 0 ≤ k ∧ SqL K H a (ns.map V.int) ∧ Q (.int (ns.getD k.toNat 0)) H
theorem Hx (T : Tx K mg) : Aj P w K mg base CX0 1 T.RX T.PX ["_law_script", "_law_k"] (GX K) := by
 refine T.Jq.F.ok SK (fun _ _ _ _ h => by walk_at "LN") ?_
 ·walk_at "I2"
  obtain ⟨a, k, ns, rfl, h0, hS, hq⟩ := h
  refine ⟨_, (AD (AT (ptc Bc (pv 1) (AK AZ (by rfl) T.Bv BP (AA (pv 0) AB))) (AE (AG (pxi Bj (pv 0) (pv 1))))
    AM)
   (AE (AG AC))), ?_⟩
  walk_at "RD"
  refine ⟨_, Or.inl hS, ?_⟩
  obtain ⟨k, rfl⟩ := Int.eq_ofNat_of_zero_le h0
  rw [z6]
  by_cases hk : k < ns.length
  ·rw [if_pos (by simpa using hk)]
   refine ⟨_, hS, _, NA (v := V.int (ns.getD k 0)) ?_, hq⟩
   rw [zG, z0 hk, zE, z0 hk]
   rfl
  ·rw [if_neg (by simpa using hk)]
   rw [Int.toNat_natCast, zE, List.getElem?_eq_none (by lia)] at hq
   exact hq
theorem OT : AL ["_law_beach", "_law_turn", "_law_place", "_law_other"] ["_law_beach", "_law_turn", "_law_place", "_law_other"] (AF Jv) := by walk_at "SC"
noncomputable def eT (t : Int) : Err := if t < 6 then .nogate else if t = 6 then .taken else if t < 10 then .upside else if t < 14 then .bounds else if t = 14 then .nothing else if t < 18 then .badlist else if t < 20 then .few else if t = 20 then .size else if t = 21 then .badthrow else if t = 22 then .badrow else if t = 23 then .full else .deeds
structure B29 (C : Addr) (H : Hp) (b S P : Addr) (ow : List Addr) (p f h o : Int) : Prop where
 hb : Bch C H b S P ow [⟨p, f, h⟩] [[]]
 p0 : -1000 ≤ p
 p1 : p ≤ 1000
 o0 : -1000 ≤ o
 o1 : o ≤ 1000
 f0 : -900 ≤ f
 f1 : f ≤ 900
 fh : f ≤ h
 h1 : h ≤ f + 90
 ne : o ≠ p
theorem RQ {g : G} : Bg [g] g.p = some g := by simp [Bg]
theorem gate0 {g : G} {o : Int} (h : o ≠ g.p) : Bg [g] o = none := by simp [Bg, Ne.symm h]
theorem Oh {g : G} {o : Int} (h : o ≠ g.p) : o ∉ Ab [g] := by simpa [Ab] using h
theorem tk1 {g : G} {o : Int} {past : List (List G)} (h : o ≠ g.p) : GM [g] past o = some .nogate := if_neg (Oh h)
theorem lf1 {g : G} {o x y : Int} {past : List (List G)} (h : o ≠ g.p) : B8 [g] past o x y = some .nogate := by unfold B8; rw [gate0 h]
theorem pt1 {g : G} {x y : Int} {past : List (List G)} : En [g] past g.p x y = some .taken := if_pos (by simp [Ab])
theorem or1 {α : Type} {a : α} {x : Option α} : (some a).or x = some a := rfl
theorem up1 {p f h : Int} (z : h < f) : DI p f h = some .upside := if_pos z
theorem bd1 {p f h : Int} (z : ¬ h < f) (n : ¬ (InB p ∧ InB f ∧ InB h)) : DI p f h = some .bounds := by unfold DI; rw [if_neg z, if_neg n]
theorem pt2 {g : G} {o x y : Int} {e : Err} {past : List (List G)} (h : o ≠ g.p) (z : DI o x y = some e) : En [g] past o x y = some e := by unfold En; rw [if_neg (Oh h), z]; rfl
theorem lf2 {g : G} {x y : Int} {e : Err} {past : List (List G)} (z : DI g.p (g.f + x) (g.h + y) = some e) : B8 [g] past g.p x y = some e := by unfold B8; rw [RQ]; show (DI g.p (g.f + x) (g.h + y)).or _ = _; rw [z]; rfl
noncomputable def Oy {K : W.Frag} {mg : Str → Option Value} (T : Tx K mg) : Sp := fun vs H Q E => ∃ (b S P : Addr) (ow : List Addr) (p f h o t : Int), vs = [.ref b, .int t, .int p, .int o] ∧ B29 T.AN H b S P ow p f h o ∧ 0 ≤ t ∧ t < 15 ∧ (t < 3 ∨ 5 < t) ∧ ∀ H', E (T.err (eT t)) none H'
theorem Oe (T : Tx K mg) : Aj P w K mg base (CXE P w) 4 T.Mh T.Kc ["_law_beach", "_law_turn", "_law_place", "_law_other"] (Oy T) := by
 refine T.GZ.F.okX OT (fun _ _ _ _ h => by walk_at "LN") ?_
 ·walk_at "I2"
  obtain ⟨b, S, P, ow, p, f, h, o, t, rfl, w, t0, t1, t2, kE⟩ := h
  refine ⟨_, (AD (AT (ptc Az (pv 1) AC) (AE (AG (AW (pv 0) T.AH T.BV.mt (D3 T) (hr.mono (by decide)) T.BV.b .nil Al (AA (pv 3) AB))))
    AM)
   (AD (AT (ptc Az (pv 1) AC) (AE (AG (AW (pv 0) T.AH T.Aw.mt (Bx T) (hr.mono (by decide)) T.Aw.b .nil Al (AA (pv 3) (AA AC (AA AC AB))))))
    AM)
   (AD (AT (ptc Az (pv 1) AC) (AE (AG (AW (pv 0) T.AH T.BU.mt (Dw T) (hr.mono (by decide)) T.BU.b .nil Al (AA (pv 3) (AA AC (AA AC AB))))))
    AM)
   (AD (AT (ptc Az (pv 1) AC) (AE (AG (AW (pv 0) T.AH T.At.mt (Bo T) (hr.mono (by decide)) T.At.b .nil Al (AA (pv 2) (AA AC (AA AC AB))))))
    AM)
   (AD (AT (ptc Az (pv 1) AC) (AE (AG (AW (pv 0) T.AH T.At.mt (Bo T) (hr.mono (by decide)) T.At.b .nil Al (AA (pv 3) (AA AC (AA AC AB))))))
    AM)
   (AD (AT (ptc Az (pv 1) AC) (AE (AG (AW (pv 0) T.AH T.Aw.mt (Bx T) (hr.mono (by decide)) T.Aw.b .nil Al (AA (pv 2) (AA AC (AA AC AB))))))
    AM)
   (AD (AT (ptc Az (pv 1) AC) (AE (AG (AW (pv 0) T.AH T.BU.mt (Dw T) (hr.mono (by decide)) T.BU.b .nil Al (AA (pv 2) (AA AC (AA AC AB))))))
    AM)
   (AD (AT (ptc Az (pv 1) AC) (AE (AG (AW (pv 0) T.AH T.At.mt (Bo T) (hr.mono (by decide)) T.At.b .nil Al (AA (pv 3) (AA AC (AA AC AB))))))
    AM)
   (AD (AT (ptc Az (pv 1) AC) (AE (AG (AW (pv 0) T.AH T.Aw.mt (Bx T) (hr.mono (by decide)) T.Aw.b .nil Al (AA (pv 2) (AA AC (AA AC AB))))))
    AM)
   (AD (AT (ptc Az (pv 1) AC) (AE (AG (AW (pv 0) T.AH T.BU.mt (Dw T) (hr.mono (by decide)) T.BU.b .nil Al (AA (pv 2) (AA AC (AA AC AB))))))
    AM)
   (AD (AT (ptc Az (pv 1) AC) (AE (AG (AW (pv 0) T.AH T.B3.mt (HG T) (hr.mono (by decide)) T.B3.b .nil Al (AA AC AB))))
    AM)
   (AE (AG (AW (pv 0) T.AH T.B3.mt (HG T) (hr.mono (by decide)) T.B3.b .nil Al (AA AC AB))))))))))))))), ?_⟩
  obtain ⟨dx, eb⟩ := w.hb.at_
  walk_at "Q"
  walk_at "RD"
  by_cases c0 : t = 0
  ·rw [if_pos (z5 c0)]
   subst c0
   have z : GM [⟨p, f, h⟩] [[]] o = some .nogate := tk1 w.ne
   exact ⟨dx, _, eb, rfl, b, S, P, ow, _, _, _, rfl, w.hb, fun e he H1 _ => (by rw [z] at he; cases he; exact kE H1), fun g _ hn => (by rw [z] at hn; cases hn)⟩
  rw [if_neg (fun z => c0 (z4 z))]
  walk_at "NX"
  walk_at "Q"
  walk_at "RD"
  by_cases c1 : t = 1
  ·rw [if_pos (z5 c1)]
   subst c1
   have z : B8 [⟨p, f, h⟩] [[]] o 3 1 = some .nogate := lf1 w.ne
   exact ⟨dx, _, eb, rfl, b, S, P, ow, _, _, _, _, _, rfl, w.hb, fun e he H1 _ => (by rw [z] at he; cases he; exact kE H1), fun g _ hn => (by rw [z] at hn; cases hn)⟩
  rw [if_neg (fun z => c1 (z4 z))]
  walk_at "NX"
  walk_at "Q"
  walk_at "RD"
  by_cases c2 : t = 2
  ·rw [if_pos (z5 c2)]
   subst c2
   have z : B8 [⟨p, f, h⟩] [[]] o (-0) (-2000) = some .nogate := lf1 w.ne
   exact ⟨dx, _, eb, rfl, b, S, P, ow, _, _, _, _, _, rfl, w.hb, fun e he H1 _ => (by rw [z] at he; cases he; exact kE H1), fun g _ hn => (by rw [z] at hn; cases hn)⟩
  rw [if_neg (fun z => c2 (z4 z))]
  walk_at "NX"
  walk_at "Q"
  walk_at "RD"
  by_cases c6 : t = 6
  ·rw [if_pos (z5 c6)]
   subst c6
   have z : En [⟨p, f, h⟩] [[]] p 3 2 = some .taken := pt1 (g := ⟨p, f, h⟩)
   exact ⟨dx, _, eb, rfl, b, S, P, ow, _, _, _, _, _, rfl, w.hb, fun e he H1 _ => (by rw [z] at he; cases he; exact kE H1), fun hn => (by rw [z] at hn; cases hn)⟩
  rw [if_neg (fun z => c6 (z4 z))]
  walk_at "NX"
  walk_at "Q"
  walk_at "RD"
  by_cases c7 : t = 7
  ·rw [if_pos (z5 c7)]
   subst c7
   have z : En [⟨p, f, h⟩] [[]] o 2001 2000 = some .upside := pt2 w.ne (up1 (by decide))
   exact ⟨dx, _, eb, rfl, b, S, P, ow, _, _, _, _, _, rfl, w.hb, fun e he H1 _ => (by rw [z] at he; cases he; exact kE H1), fun hn => (by rw [z] at hn; cases hn)⟩
  rw [if_neg (fun z => c7 (z4 z))]
  walk_at "NX"
  walk_at "Q"
  walk_at "RD"
  by_cases c8 : t = 8
  ·rw [if_pos (z5 c8)]
   subst c8
   have z : B8 [⟨p, f, h⟩] [[]] p 91 0 = some .upside := lf2 (g := ⟨p, f, h⟩) (up1 (by show h + 0 < f + 91; have := w.h1; lia))
   exact ⟨dx, _, eb, rfl, b, S, P, ow, _, _, _, _, _, rfl, w.hb, fun e he H1 _ => (by rw [z] at he; cases he; exact kE H1), fun g _ hn => (by rw [z] at hn; cases hn)⟩
  rw [if_neg (fun z => c8 (z4 z))]
  walk_at "NX"
  walk_at "Q"
  walk_at "RD"
  by_cases c9 : t = 9
  ·rw [if_pos (z5 c9)]
   subst c9
   have z : B8 [⟨p, f, h⟩] [[]] p (-0) (-91) = some .upside := lf2 (g := ⟨p, f, h⟩) (up1 (by show h + -91 < f + -0; have := w.h1; lia))
   exact ⟨dx, _, eb, rfl, b, S, P, ow, _, _, _, _, _, rfl, w.hb, fun e he H1 _ => (by rw [z] at he; cases he; exact kE H1), fun g _ hn => (by rw [z] at hn; cases hn)⟩
  rw [if_neg (fun z => c9 (z4 z))]
  walk_at "NX"
  walk_at "Q"
  walk_at "RD"
  by_cases c10 : t = 10
  ·rw [if_pos (z5 c10)]
   subst c10
   have z : En [⟨p, f, h⟩] [[]] o 1000 1001 = some .bounds := pt2 w.ne (bd1 (by decide) fun z => absurd z.2.2 (by unfold InB; decide))
   exact ⟨dx, _, eb, rfl, b, S, P, ow, _, _, _, _, _, rfl, w.hb, fun e he H1 _ => (by rw [z] at he; cases he; exact kE H1), fun hn => (by rw [z] at hn; cases hn)⟩
  rw [if_neg (fun z => c10 (z4 z))]
  walk_at "NX"
  walk_at "Q"
  walk_at "RD"
  by_cases c11 : t = 11
  ·rw [if_pos (z5 c11)]
   subst c11
   have z : B8 [⟨p, f, h⟩] [[]] p 2000 2000 = some .bounds := lf2 (g := ⟨p, f, h⟩) (bd1 (by show ¬ h + 2000 < f + 2000; have := w.fh; lia) fun z => by have z1 : f + 2000 ≤ 1000 := z.2.1.2; have := w.f0; lia)
   exact ⟨dx, _, eb, rfl, b, S, P, ow, _, _, _, _, _, rfl, w.hb, fun e he H1 _ => (by rw [z] at he; cases he; exact kE H1), fun g _ hn => (by rw [z] at hn; cases hn)⟩
  rw [if_neg (fun z => c11 (z4 z))]
  walk_at "NX"
  walk_at "Q"
  walk_at "RD"
  by_cases c12 : t = 12
  ·rw [if_pos (z5 c12)]
   subst c12
   have z : B8 [⟨p, f, h⟩] [[]] p (-2000) (-2000) = some .bounds := lf2 (g := ⟨p, f, h⟩) (bd1 (by show ¬ h + -2000 < f + -2000; have := w.fh; lia) fun z => by have z1 : -1000 ≤ f + -2000 := z.2.1.1; have := w.f1; lia)
   exact ⟨dx, _, eb, rfl, b, S, P, ow, _, _, _, _, _, rfl, w.hb, fun e he H1 _ => (by rw [z] at he; cases he; exact kE H1), fun g _ hn => (by rw [z] at hn; cases hn)⟩
  rw [if_neg (fun z => c12 (z4 z))]
  walk_at "NX"
  walk_at "Q"
  walk_at "RD"
  by_cases c13 : t = 13
  ·rw [if_pos (z5 c13)]
   subst c13
   have z : OE [[]] 0 = some .bounds := rfl
   exact ⟨dx, _, eb, rfl, b, S, P, ow, _, _, _, rfl, w.hb, fun e he => (by rw [z] at he; cases he; exact kE _), fun hn => (by rw [z] at hn; cases hn)⟩
  rw [if_neg (fun z => c13 (z4 z))]
  walk_at "NX"
  walk_at "RD"
  obtain rfl : t = 14 := by lia
  have z : OE [[]] 2 = some .nothing := rfl
  exact ⟨dx, _, eb, rfl, b, S, P, ow, _, _, _, rfl, w.hb, fun e he => (by rw [z] at he; cases he; exact kE _), fun hn => (by rw [z] at hn; cases hn)⟩
theorem P0 : AL ["_law_beach", "_law_turn", "_law_place", "_law_other"] ["_law_beach", "_law_turn", "_law_place", "_law_other"] (AF K7) := by walk_at "SC"
theorem Qo {C b S P : Addr} {ow : List Addr} {gs : List G} {past : List (List G)} {H H' : Hp} (hb : Bch C H b S P ow gs past) (k : Kp b P H H') (h : LM.Tbl H Dd F8 N4) : LM.Tbl H' Dd F8 N4 := by
 obtain ⟨dx, eb⟩ := hb.at_
 obtain ⟨ps, ep, _⟩ := hb.pa
 have g : ∀ a u, (∀ x, u ≠ .lst x) → (∀ x y z, u ≠ .ins x y z) → H a = some u → H' a = some u := fun a u h1 h2 e => k a u (fun z => by rw [z, eb] at e; cases e; exact h2 _ _ _ rfl) (fun z => by rw [z, ep] at e; cases e; exact h1 _ rfl) e
 rcases h with h | ⟨c, o, u, vs, t, h1, h2, h3⟩
 ·exact .inl (g _ _ (fun _ z => nomatch z) (fun _ _ _ z => nomatch z) h)
 ·exact .inr ⟨c, o, u, vs, t, g _ _ (fun _ z => nomatch z) (fun _ _ _ z => nomatch z) h1, g _ _ (fun _ z => nomatch z) (fun _ _ _ z => nomatch z) h2, h3⟩
theorem o_5s : Str.ofString "5/" = tx [53, 47] := by rfl
theorem S4 : DD [] := .inl rfl
theorem Ms {p : Int} : DD [p, p] := .inr (.inr fun z => by have := (List.nodup_cons.mp z).1; simp at this)
theorem Qt {p : Int} : ¬ DD [p] := fun z => by
 rcases z with z | z | z
 ·cases z
 ·exact absurd z (by show ¬ 40 < 1; decide)
 ·exact z (by simp)
theorem Sw {p o : Int} (h : o ≠ p) : ¬ DD [p, o] := fun z => by
 rcases z with z | z | z
 ·cases z
 ·exact absurd z (by show ¬ 40 < 2; decide)
 ·exact z (by simp [Ne.symm h])
noncomputable def QI {K : W.Frag} {mg : Str → Option Value} (T : Tx K mg) : Sp := fun vs H Q E => ∃ (b S P : Addr) (ow : List Addr) (p f h o t : Int), vs = [.ref b, .int t, .int p, .int o] ∧ B29 T.AN H b S P ow p f h o ∧ 2 < t ∧ t < 23 ∧ (t < 6 ∨ 14 < t) ∧ LM.Tbl H Dd F8 N4 ∧ ∀ H', E (T.err (eT t)) none H'
theorem Pg (T : Tx K mg) : Aj P w K mg base (CXE P w) 11 T.Nh T.Mb ["_law_beach", "_law_turn", "_law_place", "_law_other"] (QI T) := by
 refine T.I0.F.okX P0 (fun _ _ _ _ h => by walk_at "LN") ?_
 ·walk_at "I2"
  obtain ⟨b, S, P, ow, p, f, h, o, t, rfl, w, t0, t1, t2, tb, kE⟩ := h
  refine ⟨_, (AD (AT (ptc Az (pv 1) AC) (AE (AG (AW (pv 0) T.AH T.BX.mt (EJ T) (hr.mono (by decide)) T.BX.b .nil Al (AA (BZ (AA (pv 2) (AA (pv 3) AB))) AB))))
    AM)
   (AD (AT (ptc Az (pv 1) AC) (AE (AG (AW (pv 0) T.AH T.A4.mt (B9 T) (hr.mono (by decide)) T.A4.b .nil Al (AA (BZ (AA (pv 3) AB)) AB))))
    AM)
   (AD (AT (ptc Az (pv 1) AC) (AE (AG (AW (pv 0) T.AH T.A3.mt (CA T) (hr.mono (by decide)) T.A3.b .nil Al (AA (BZ (AA (pv 3) (AA (pv 2) AB))) AB))))
    AM)
   (AD (AT (ptc Az (pv 1) AC) (AE (AG (AW (pv 0) T.AH T.BX.mt (EJ T) (hr.mono (by decide)) T.BX.b .nil Al (AA (BZ AB) AB))))
    AM)
   (AD (AT (ptc Az (pv 1) AC) (AE (AG (AW (pv 0) T.AH T.A4.mt (B9 T) (hr.mono (by decide)) T.A4.b .nil Al (AA (BZ (AA (pv 3) (AA (pv 3) AB))) AB))))
    AM)
   (AD (AT (ptc Az (pv 1) AC) (AE (AG (AW (pv 0) T.AH T.A3.mt (CA T) (hr.mono (by decide)) T.A3.b .nil Al (AA (BZ (AA (pv 2) (AA (pv 2) AB))) AB))))
    AM)
   (AD (AT (ptc Az (pv 1) AC) (AE (AG (AW (pv 0) T.AH T.A4.mt (B9 T) (hr.mono (by decide)) T.A4.b .nil Al (AA (BZ (AA (pv 2) AB)) AB))))
    AM)
   (AD (AT (ptc Az (pv 1) AC) (AE (AG (AW (pv 0) T.AH T.A3.mt (CA T) (hr.mono (by decide)) T.A3.b .nil Al (AA (BZ (AA (pv 2) AB)) AB))))
    AM)
   (AD (AT (ptc Az (pv 1) AC) (AD (BK (AW (pv 0) T.AH T.BV.mt (D3 T) (hr.mono (by decide)) T.BV.b .nil Al (AA (pv 2) AB)))
     (AE (AG (RY (pv 0) T.AH T.Ev.mt (ME T) (hr.mono (by decide)) T.Ev.b .nil Al))))
    AM)
   (AD (AT (ptc Az (pv 1) AC) (AE (AG (AW (pv 0) T.AH T.DG.mt (KA T) (hr.mono (by decide)) T.DG.b .nil Al (AA (An (AA AC (AA AC (AA AC (AA AC AB))))) AB))))
    AM)
   (AD (AT (ptc Az (AV Ek (pv 2) AC) AC) (AE (AG (pcl T.Bw (B5 T) hr Al (AA Ar AB))))
    AM)
   (AE (AG (pcl T.FP (Ji T) hr Al (AA Ar AB))))))))))))))), ?_⟩
  obtain ⟨dx, eb⟩ := w.hb.at_
  walk_at "Q"
  walk_at "RD"
  by_cases c3 : t = 3
  ·rw [if_pos (z5 c3)]
   subst c3
   exact ⟨dx, _, eb, rfl, by decide, fun D H1 n1 s1 e1 => ⟨b, S, P, ow, _, _, D, ([p, o] : List Int), rfl, w.hb.same s1, SqL.of e1, by show 2 < 4000; decide, fun z => absurd z (Sw w.ne), fun _ _ H2 _ => kE H2, fun _ z => absurd (z o (by simp)) (Oh w.ne)⟩⟩
  rw [if_neg (fun z => c3 (z4 z))]
  walk_at "NX"
  walk_at "Q"
  walk_at "RD"
  by_cases c4 : t = 4
  ·rw [if_pos (z5 c4)]
   subst c4
   exact ⟨dx, _, eb, rfl, by decide, fun D H1 n1 s1 e1 => ⟨b, S, P, ow, _, _, D, ([o] : List Int), rfl, w.hb.same s1, SqL.of e1, by show 1 < 4000; decide, fun z => absurd z (Qt), fun _ _ H2 _ => kE H2, fun _ z => absurd (z o (by simp)) (Oh w.ne), fun _ z => absurd (z o (by simp)) (Oh w.ne)⟩⟩
  rw [if_neg (fun z => c4 (z4 z))]
  walk_at "NX"
  walk_at "Q"
  walk_at "RD"
  by_cases c5 : t = 5
  ·rw [if_pos (z5 c5)]
   subst c5
   exact ⟨dx, _, eb, rfl, by decide, fun D H1 n1 s1 e1 => ⟨b, S, P, ow, _, _, D, ([o, p] : List Int), rfl, w.hb.same s1, SqL.of e1, by show 2 < 4000; decide, fun z => absurd z (Sw w.ne.symm), fun _ _ H2 _ => kE H2, fun _ z => absurd (z o (by simp)) (Oh w.ne), fun _ z => absurd (z o (by simp)) (Oh w.ne)⟩⟩
  rw [if_neg (fun z => c5 (z4 z))]
  walk_at "NX"
  walk_at "Q"
  walk_at "RD"
  by_cases c15 : t = 15
  ·rw [if_pos (z5 c15)]
   subst c15
   exact ⟨dx, _, eb, rfl, by decide, fun D H1 n1 s1 e1 => ⟨b, S, P, ow, _, _, D, ([] : List Int), rfl, w.hb.same s1, SqL.of e1, by show 0 < 4000; decide, fun _ H2 _ => kE H2, fun z => absurd (S4) z, fun z => absurd (S4) z⟩⟩
  rw [if_neg (fun z => c15 (z4 z))]
  walk_at "NX"
  walk_at "Q"
  walk_at "RD"
  by_cases c16 : t = 16
  ·rw [if_pos (z5 c16)]
   subst c16
   exact ⟨dx, _, eb, rfl, by decide, fun D H1 n1 s1 e1 => ⟨b, S, P, ow, _, _, D, ([o, o] : List Int), rfl, w.hb.same s1, SqL.of e1, by show 2 < 4000; decide, fun _ H2 _ => kE H2, fun z => absurd (Ms) z, fun z => absurd (Ms) z, fun z => absurd (Ms) z⟩⟩
  rw [if_neg (fun z => c16 (z4 z))]
  walk_at "NX"
  walk_at "Q"
  walk_at "RD"
  by_cases c17 : t = 17
  ·rw [if_pos (z5 c17)]
   subst c17
   exact ⟨dx, _, eb, rfl, by decide, fun D H1 n1 s1 e1 => ⟨b, S, P, ow, _, _, D, ([p, p] : List Int), rfl, w.hb.same s1, SqL.of e1, by show 2 < 4000; decide, fun _ H2 _ => kE H2, fun z => absurd (Ms) z, fun z => absurd (Ms) z, fun z => absurd (Ms) z⟩⟩
  rw [if_neg (fun z => c17 (z4 z))]
  walk_at "NX"
  walk_at "Q"
  walk_at "RD"
  by_cases c18 : t = 18
  ·rw [if_pos (z5 c18)]
   subst c18
   exact ⟨dx, _, eb, rfl, by decide, fun D H1 n1 s1 e1 => ⟨b, S, P, ow, _, _, D, ([p] : List Int), rfl, w.hb.same s1, SqL.of e1, by show 1 < 4000; decide, fun z => absurd z (Qt), fun _ ⟨q, hq, hn⟩ => absurd (by rw [zD.mp hq]; exact zQ) hn, fun _ _ _ H2 _ => kE H2, fun _ _ z => absurd z (by show ¬ 2 ≤ 1; decide)⟩⟩
  rw [if_neg (fun z => c18 (z4 z))]
  walk_at "NX"
  walk_at "Q"
  walk_at "RD"
  by_cases c19 : t = 19
  ·rw [if_pos (z5 c19)]
   subst c19
   exact ⟨dx, _, eb, rfl, by decide, fun D H1 n1 s1 e1 => ⟨b, S, P, ow, _, _, D, ([p] : List Int), rfl, w.hb.same s1, SqL.of e1, by show 1 < 4000; decide, fun z => absurd z (Qt), fun _ ⟨q, hq, hn⟩ => absurd (by rw [zD.mp hq]; exact zQ) hn, fun _ _ _ H2 _ => kE H2, fun _ _ z => absurd z (by show ¬ 2 ≤ 1; decide)⟩⟩
  rw [if_neg (fun z => c19 (z4 z))]
  walk_at "NX"
  walk_at "Q"
  walk_at "RD"
  by_cases c20 : t = 20
  ·rw [if_pos (z5 c20)]
   subst c20
   have z : GM [⟨p, f, h⟩] [[]] p = none := by unfold GM; rw [if_pos (by simp [Ab])]; rfl
   refine ⟨dx, _, eb, rfl, b, S, P, ow, _, _, _, rfl, w.hb, fun e he => (by rw [z] at he; cases he), fun g _ _ H2 S2 ow2 D kp hb2 ho e2 => ?_⟩
   have hp : Ef [⟨p, f, h⟩] p [] = [] := by simp [Ef]
   rw [hp] at hb2
   obtain ⟨dx2, eb2⟩ := hb2.at_
   exact ⟨dx2, _, eb2, rfl, b, S2, P, ow2, _, _, rfl, hb2, Qo w.hb kp tb, fun _ => kE H2, fun z => absurd z (by decide)⟩
  rw [if_neg (fun z => c20 (z4 z))]
  walk_at "NX"
  walk_at "Q"
  walk_at "RD"
  by_cases c21 : t = 21
  ·rw [if_pos (z5 c21)]
   subst c21
   exact ⟨dx, _, eb, rfl, by decide, fun q H1 n1 s1 e1 => ⟨b, S, P, ow, _, _, q, 1, 0, 1, 1, rfl, w.hb.same s1, e1, fun _ => kE H1, fun z => absurd (.inl (by decide)) z⟩⟩
  rw [if_neg (fun z => c21 (z4 z))]
  walk_at "NX"
  obtain rfl : t = 22 := by lia
  walk_at "Q"
  walk_at "RD"
  by_cases c0 : p % 2 = 0
  ·rw [if_pos (z5 c0)]
   exact ⟨[53, 47], by rw [o_5s], by decide, by decide, fun _ H1 _ => kE H1, fun n hn => by cases hn⟩
  rw [if_neg (fun z => c0 (z4 z))]
  walk_at "NX"
  walk_at "RD"
  exact ⟨[53, 47], by rw [o_5s], by decide, by decide, fun _ H1 _ => kE H1, fun n m hn => by cases hn⟩
theorem JL : AL ["_law_beach", "_law_turn", "_law_place", "_law_k"] ["_law_beach", "_law_turn", "_law_place"] (AF Kh) := by walk_at "SC"
noncomputable def QD {K : W.Frag} {mg : Str → Option Value} (T : Tx K mg) : Sp := fun vs H Q E => ∃ (b S P : Addr) (ow : List Addr) (p f h o t : Int), vs = [.ref b, .int t, .int p] ∧ B29 T.AN H b S P ow p f h o ∧ (t = 23 ∨ t = 24) ∧ ∀ H', E (T.err (eT t)) none H'
theorem Pr (T : Tx K mg) : Aj P w K mg base (CXE P w) 3 T.Nt T.Mu ["_law_beach", "_law_turn", "_law_place"] (QD T) := by
 refine T.IG.F.okX JL (fun _ _ _ _ h => by walk_at "LN") ?_
 ·walk_at "I2"
  obtain ⟨b, S, P, ow, p, f, h, o, t, rfl, w, t0, kE⟩ := h
  refine ⟨_, (AD (AT (ptc Az (pv 1) AC) (AD (Cr Q4 rfl (Ja (by rfl) T.Ip (AA AC AB)) (pgn 3 JL)
      (AE (BK (AW (pv 0) T.AH T.At.mt (Bo T) (hr.mono (by decide)) T.At.b .nil Al (AA (AV Bt (AV Ek (AV BA (AV BA (pv 2) AC) (pv 3)) AC) AC) (AA AC (AA AC AB)))))))
     (AE (AG (AW (pv 0) T.AH T.At.mt (Bo T) (hr.mono (by decide)) T.At.b .nil Al (AA (AV Bt (AV Ek (AV BA (pv 2) AC) AC) AC) (AA AC (AA AC AB)))))))
    AM)
   (AD (Cr Q4 rfl (Ja (by rfl) T.Ip (AA AC AB)) (pgn 3 JL)
    (AE (BK (AW (pv 0) T.AH T.Aw.mt (Bx T) (hr.mono (by decide)) T.Aw.b .nil Al (AA (pv 2) (AA AC (AA AC AB)))))))
   (AE (AG (AW (pv 0) T.AH T.BV.mt (D3 T) (hr.mono (by decide)) T.BV.b .nil Al (AA (pv 2) AB)))))), ?_⟩
  have p0 := w.p0
  have p1 := w.p1
  walk_at "Q"
  walk_at "RD"
  by_cases c23 : t = 23
  ·rw [if_pos (z5 c23)]
   subst c23
   refine ⟨_, rfl, by decide, by decide, ES (fun i σ H' => ∃ (o3 : Option V) (S P : Addr) (ow : List Addr) (gs : List G) (past : List (List G)), σ = [some (.ref b), some (.int 23), some (.int p), o3] ∧ Bch T.AN H' b S P ow gs past ∧ gs.length = i + 1 ∧ past.length = i + 1 ∧ ∀ g ∈ gs, ∃ j : Int, 0 ≤ j ∧ j ≤ i ∧ g.p = (p + 1000 + j) % 2001 - 1000) ⟨none, S, P, ow, _, _, rfl, w.hb, rfl, rfl, fun g hg => ⟨0, by decide, by decide, by rw [zD.mp hg]; show p = _; lia⟩⟩ ?_ ?_⟩
   ·rintro i σ H1 hi ⟨o3, S, P, ow, gs, past, rfl, hb, lg, lp, hg⟩
    have hi : i < 39 := by simpa using hi
    dsimp only [Cw, List.set_cons_succ, List.set_cons_zero]
    obtain ⟨dx, eb⟩ := hb.at_
    obtain ⟨q, hq, q0, q1⟩ : ∃ q : Int, (p + 1001 + (0 + (i : Int))) % 2001 - 1000 = q ∧ -1000 ≤ q ∧ q ≤ 1000 := ⟨_, rfl, by lia, by lia⟩
    have hn : ∀ g ∈ gs, g.p ≠ q := fun g hm z => by
     obtain ⟨j, j0, j1, e⟩ := hg g hm
     lia
    have hE : En gs past q 0 0 = none := by
     unfold En
     rw [if_neg (fun z => by obtain ⟨g, hm, e⟩ := zX.mp z; exact hn g hm e), CL.mpr ⟨q0, q1, by show (-1000 : Int) ≤ 0; decide, by show (0 : Int) ≤ 0; decide, by show (0 : Int) ≤ 1000; decide⟩, if_neg (by lia), if_neg (by lia)]
     rfl
    walk_at "RD"
    rw [hq]
    refine ⟨dx, _, eb, rfl, b, S, P, ow, gs, past, q, 0, 0, rfl, hb, fun e he => (by rw [hE] at he; cases he), fun _ H7 S' ow' D kp hb7 o7 eD => ⟨⟨_, rfl⟩, S', P, ow', _, _, hb7, ?_, by rw [zW, lp]; rfl, fun g hm => ?_⟩⟩
    ·rw [IE, List.filter_eq_self.mpr (fun g hm => by rw [zV (hn g hm)]; rfl), lg]; rfl
    ·rcases K1.mp hm with z | z
     ·obtain ⟨j, j0, j1, e⟩ := hg g z.1
      exact ⟨j, j0, by lia, e⟩
     ·rw [zD.mp z]
      exact ⟨i + 1, by lia, by lia, by show q = _; lia⟩
   ·rintro σ H1 ⟨o3, S, P, ow, gs, past, rfl, hb, lg, lp, hg⟩
    replace lg : gs.length = 40 := lg
    obtain ⟨dx, eb⟩ := hb.at_
    obtain ⟨q, hq, q0, q1⟩ : ∃ q : Int, (p + 1040) % 2001 - 1000 = q ∧ -1000 ≤ q ∧ q ≤ 1000 := ⟨_, rfl, by lia, by lia⟩
    have hn : ∀ g ∈ gs, g.p ≠ q := fun g hm z => by
     obtain ⟨j, j0, j1, e⟩ := hg g hm
     have j1 : j ≤ 39 := j1
     lia
    have hE : En gs past q 0 0 = some .full := by
     unfold En
     rw [if_neg (fun z => by obtain ⟨g, hm, e⟩ := zX.mp z; exact hn g hm e), CL.mpr ⟨q0, q1, by show (-1000 : Int) ≤ 0; decide, by show (0 : Int) ≤ 0; decide, by show (0 : Int) ≤ 1000; decide⟩, if_pos (by lia)]
     rfl
    walk_at "RD"
    rw [hq]
    exact ⟨dx, _, eb, rfl, b, S, P, ow, gs, past, q, 0, 0, rfl, hb, fun e he H2 _ => (by rw [hE] at he; cases he; exact kE H2), fun hn => (by rw [hE] at hn; cases hn)⟩
  rw [if_neg (fun z => c23 (z4 z))]
  obtain rfl : t = 24 := by lia
  walk_at "NX"
  walk_at "Q"
  refine ⟨_, rfl, by decide, by decide, ES (fun i σ H' => ∃ (o3 : Option V) (S P : Addr) (ow : List Addr) (past : List (List G)), σ = [some (.ref b), some (.int 24), some (.int p), o3] ∧ Bch T.AN H' b S P ow [⟨p, f, h⟩] past ∧ past.length = i + 1) ⟨none, S, P, ow, _, rfl, w.hb, rfl⟩ ?_ ?_⟩
  ·rintro i σ H1 hi ⟨o3, S, P, ow, past, rfl, hb, lp⟩
   have hi : i < 299 := by simpa using hi
   dsimp only [Cw, List.set_cons_succ, List.set_cons_zero]
   obtain ⟨dx, eb⟩ := hb.at_
   have hE : B8 [⟨p, f, h⟩] past p 0 0 = none := by
    unfold B8
    rw [RQ (g := ⟨p, f, h⟩)]
    show (DI p (f + 0) (h + 0)).or (GQ past) = none
    rw [CL.mpr ⟨p0, p1, by show -1000 ≤ f + 0; have := w.f0; lia, by show f + 0 ≤ h + 0; have := w.fh; lia, by show h + 0 ≤ 1000; have := w.h1; have := w.f1; lia⟩]
    exact if_neg (by lia)
   walk_at "RD"
   refine ⟨dx, _, eb, rfl, b, S, P, ow, _, past, p, 0, 0, rfl, hb, fun e he => (by rw [hE] at he; cases he), fun g hg _ H7 S' ow' D kp hb7 o7 eD => ⟨⟨_, rfl⟩, S', P, ow', past ++ [[⟨p, f, h⟩]], ?_, by rw [zW, lp]; rfl⟩⟩
   rw [RQ (g := ⟨p, f, h⟩)] at hg
   cases hg
   have e : Ef [⟨p, f, h⟩] p [⟨p, f + 0, h + 0⟩] = [⟨p, f, h⟩] := by simp [Ef]
   rw [e] at hb7
   exact hb7
  ·rintro σ H1 ⟨o3, S, P, ow, past, rfl, hb, lp⟩
   refine hM _ _ ?_
   clear hM M
   replace lp : past.length = 300 := lp
   obtain ⟨dx, eb⟩ := hb.at_
   have hE : GM [⟨p, f, h⟩] past p = some .deeds := by
    unfold GM
    rw [if_pos (by simp [Ab])]
    exact if_pos (by lia)
   walk_at "RD"
   exact ⟨dx, _, eb, rfl, b, S, P, ow, _, past, p, rfl, hb, fun e he H2 _ => (by rw [hE] at he; cases he; exact kE H2), fun g _ hn => (by rw [hE] at hn; cases hn)⟩
theorem Db : AL ["_law_e", "_law_count_here"] ["_law_e"] (AF Gc) := by walk_at "SC"
noncomputable def LN {K : W.Frag} {mg : Str → Option Value} (T : Tx K mg) : Sp := fun vs H Q _ => ∃ (ea C : Addr) (i : Nat), vs = [.ref ea] ∧ H ea = some (exO ea C) ∧ [T.BO, T.Bi, T.Am, T.Ac, T.Au, T.As, T.Ad, T.BF, T.BM, T.Av, T.A2, T.BR][i]? = some C ∧ Q (.int 1) H
theorem OQ (T : Tx K mg) : MK P w K mg base CX0 1 T.Jg T.K5 ["_law_e"] (LN T) := by
 refine T.MY.F.okC Db (fun _ _ _ _ h => by walk_at "LN") ?_
 ·intro cdv A outer s H vs Q E hr h
  have hu : (A.deeper (PyProof.Rows.envOfC "_law_count" (AF Gc) s.heap.objs.size T.Jg cdv)).units + 1 < cLine := by have := hr.un; lia
  obtain ⟨ea, C, i, rfl, he, hi, k⟩ := h
  refine ⟨_, (AD (pst 1 Db (AV BA (AV BA (A1 BH (by rfl) T.EG CH (AA (AK (AY (K := K) rfl) (by rfl) T.AS AR (AA (pv 0) (AA (Aa (v := .ref T.BF) (by rfl) T.EY rfl) AB))) AB)) (A1 BH (by rfl) T.EG CH (AA (AK (AY (K := K) rfl) (by rfl) T.AS AR (AA (pv 0) (AA (Aa (v := .ref T.BR) (by rfl) T.Im rfl) AB))) AB))) (A1 BH (by rfl) T.EG CH (AA (AK (AY (K := K) rfl) (by rfl) T.AS AR (AA (pv 0) (AA (Aa (v := .ref T.A2) (by rfl) T.E7 rfl) AB))) AB))))
   (AD (pst 1 Db (AV BA (AV BA (AV BA (pv 1) (A1 BH (by rfl) T.EG CH (AA (AK (AY (K := K) rfl) (by rfl) T.AS AR (AA (pv 0) (AA (Aa (v := .ref T.Au) (by rfl) T.Fs rfl) AB))) AB))) (A1 BH (by rfl) T.EG CH (AA (AK (AY (K := K) rfl) (by rfl) T.AS AR (AA (pv 0) (AA (Aa (v := .ref T.As) (by rfl) T.Fu rfl) AB))) AB))) (A1 BH (by rfl) T.EG CH (AA (AK (AY (K := K) rfl) (by rfl) T.AS AR (AA (pv 0) (AA (Aa (v := .ref T.BO) (by rfl) T.LV rfl) AB))) AB))))
   (AD (pst 1 Db (AV BA (AV BA (AV BA (pv 1) (A1 BH (by rfl) T.EG CH (AA (AK (AY (K := K) rfl) (by rfl) T.AS AR (AA (pv 0) (AA (Aa (v := .ref T.Ad) (by rfl) T.Dr rfl) AB))) AB))) (A1 BH (by rfl) T.EG CH (AA (AK (AY (K := K) rfl) (by rfl) T.AS AR (AA (pv 0) (AA (Aa (v := .ref T.Ac) (by rfl) T.CY rfl) AB))) AB))) (A1 BH (by rfl) T.EG CH (AA (AK (AY (K := K) rfl) (by rfl) T.AS AR (AA (pv 0) (AA (Aa (v := .ref T.Bi) (by rfl) T.NI rfl) AB))) AB))))
   (AD (pst 1 Db (AV BA (AV BA (AV BA (pv 1) (A1 BH (by rfl) T.EG CH (AA (AK (AY (K := K) rfl) (by rfl) T.AS AR (AA (pv 0) (AA (Aa (v := .ref T.BM) (by rfl) T.Kq rfl) AB))) AB))) (A1 BH (by rfl) T.EG CH (AA (AK (AY (K := K) rfl) (by rfl) T.AS AR (AA (pv 0) (AA (Aa (v := .ref T.Am) (by rfl) T.FD rfl) AB))) AB))) (A1 BH (by rfl) T.EG CH (AA (AK (AY (K := K) rfl) (by rfl) T.AS AR (AA (pv 0) (AA (Aa (v := .ref T.Av) (by rfl) T.GH rfl) AB))) AB))))
   (AE (AG (pv 1))))))), ?_⟩
  have i12 : i < 12 := (z8.mp hi).1
  walk_at "Q"
  delta Hc
  refine ⟨C, he, T.qs i C hi, _, .inr ⟨_, rfl, rfl⟩, _, T.xs.kit T.xs.nd hi (j := 7) rfl, ?_⟩
  refine ⟨C, he, T.qs i C hi, _, .inr ⟨_, rfl, rfl⟩, _, T.xs.kit T.xs.nd hi (j := 11) rfl, ?_⟩
  refine ⟨C, he, T.qs i C hi, _, .inr ⟨_, rfl, rfl⟩, _, T.xs.kit T.xs.nd hi (j := 10) rfl, ?_⟩
  walk_at "NX"
  walk_at "Q"
  delta Hc
  refine ⟨C, he, T.qs i C hi, _, .inr ⟨_, rfl, rfl⟩, _, T.xs.kit T.xs.nd hi (j := 4) rfl, ?_⟩
  refine ⟨C, he, T.qs i C hi, _, .inr ⟨_, rfl, rfl⟩, _, T.xs.kit T.xs.nd hi (j := 5) rfl, ?_⟩
  refine ⟨C, he, T.qs i C hi, _, .inr ⟨_, rfl, rfl⟩, _, T.xs.kit T.xs.nd hi (j := 0) rfl, ?_⟩
  walk_at "NX"
  walk_at "Q"
  delta Hc
  refine ⟨C, he, T.qs i C hi, _, .inr ⟨_, rfl, rfl⟩, _, T.xs.kit T.xs.nd hi (j := 6) rfl, ?_⟩
  refine ⟨C, he, T.qs i C hi, _, .inr ⟨_, rfl, rfl⟩, _, T.xs.kit T.xs.nd hi (j := 3) rfl, ?_⟩
  refine ⟨C, he, T.qs i C hi, _, .inr ⟨_, rfl, rfl⟩, _, T.xs.kit T.xs.nd hi (j := 1) rfl, ?_⟩
  walk_at "NX"
  walk_at "Q"
  delta Hc
  refine ⟨C, he, T.qs i C hi, _, .inr ⟨_, rfl, rfl⟩, _, T.xs.kit T.xs.nd hi (j := 8) rfl, ?_⟩
  refine ⟨C, he, T.qs i C hi, _, .inr ⟨_, rfl, rfl⟩, _, T.xs.kit T.xs.nd hi (j := 2) rfl, ?_⟩
  refine ⟨C, he, T.qs i C hi, _, .inr ⟨_, rfl, rfl⟩, _, T.xs.kit T.xs.nd hi (j := 9) rfl, ?_⟩
  walk_at "NX"
  walk_at "RD"
  have ij : ∀ j, (i = j) = (i = j) := fun _ => rfl
  rcases (by lia : i = 0 ∨ i = 1 ∨ i = 2 ∨ i = 3 ∨ i = 4 ∨ i = 5 ∨ i = 6 ∨ i = 7 ∨ i = 8 ∨ i = 9 ∨ i = 10 ∨ i = 11) with rfl | rfl | rfl | rfl | rfl | rfl | rfl | rfl | rfl | rfl | rfl | rfl <;> exact k
theorem QP : AL ["_law_e", "_law_turn"] ["_law_e", "_law_turn"] (AF II) := by walk_at "SC"
noncomputable def Ny (t : Int) : Nat := if t < 6 then 0 else if t = 6 then 1 else if t < 10 then 2 else if t < 14 then 3 else if t = 14 then 6 else if t < 18 then 7 else if t < 20 then 8 else if t = 20 then 9 else if t = 21 then 10 else if t = 22 then 11 else if t = 23 then 4 else 5
noncomputable def MP {K : W.Frag} {mg : Str → Option Value} (T : Tx K mg) : Sp := fun vs H Q _ => ∃ (ea C : Addr) (t : Int), vs = [.ref ea, .int t] ∧ H ea = some (exO ea C) ∧ [T.BO, T.Bi, T.Am, T.Ac, T.Au, T.As, T.Ad, T.BF, T.BM, T.Av, T.A2, T.BR][Ny t]? = some C ∧ 0 ≤ t ∧ t < 25 ∧ Q (.bl true) H
theorem Ph (T : Tx K mg) : MK P w K mg base CX0 1 T.LL T.Mj ["_law_e", "_law_turn"] (MP T) := by
 refine T.Nx.F.okC QP (fun _ _ _ _ h => by walk_at "LN") ?_
 ·intro cdv A outer s H vs Q E hr h
  have hu : (A.deeper (PyProof.Rows.envOfC "_law_mine" (AF II) s.heap.objs.size T.LL cdv)).units + 1 < cLine := by have := hr.un; lia
  obtain ⟨ea, C, t, rfl, he, hi, t0, t1, k⟩ := h
  refine ⟨_, (AD (AT (ptc Bc (pv 1) AC) (AE (AG (AK (AY (K := K) rfl) (by rfl) T.AS AR (AA (pv 0) (AA (Aa (v := .ref T.BO) (by rfl) T.LV rfl) AB)))))
    AM)
   (AD (AT (ptc Bc (pv 1) AC) (AE (AG (OD (CG (AK (AY (K := K) rfl) (by rfl) T.AS AR (AA (pv 0) (AA (Aa (v := .ref T.Bi) (by rfl) T.NI rfl) AB))) (Bh (pec Az (pv 1) AC))) (Bh (CG (AK (AY (K := K) rfl) (by rfl) T.AS AR (AA (pv 0) (AA (Aa (v := .ref T.Am) (by rfl) T.FD rfl) AB))) (Bh (pec Ec (pv 1) AC)))))))
    AM)
   (AD (AT (ptc Bc (pv 1) AC) (AE (AG (OD (CG (AK (AY (K := K) rfl) (by rfl) T.AS AR (AA (pv 0) (AA (Aa (v := .ref T.Ac) (by rfl) T.CY rfl) AB))) (Bh (pec Bc (pv 1) AC))) (Bh (CG (AK (AY (K := K) rfl) (by rfl) T.AS AR (AA (pv 0) (AA (Aa (v := .ref T.Ad) (by rfl) T.Dr rfl) AB))) (Bh (pec Az (pv 1) AC)))))))
    AM)
   (AD (AT (ptc Bc (pv 1) AC) (AE (AG (OD (CG (AK (AY (K := K) rfl) (by rfl) T.AS AR (AA (pv 0) (AA (Aa (v := .ref T.BF) (by rfl) T.EY rfl) AB))) (Bh (pec Bc (pv 1) AC))) (Bh (CG (AK (AY (K := K) rfl) (by rfl) T.AS AR (AA (pv 0) (AA (Aa (v := .ref T.BM) (by rfl) T.Kq rfl) AB))) (Bh (pec Ec (pv 1) AC)))))))
    AM)
   (AD (AT (ptc Bc (pv 1) AC) (AE (AG (OD (CG (AK (AY (K := K) rfl) (by rfl) T.AS AR (AA (pv 0) (AA (Aa (v := .ref T.Av) (by rfl) T.GH rfl) AB))) (Bh (pec Az (pv 1) AC))) (Bh (CG (AK (AY (K := K) rfl) (by rfl) T.AS AR (AA (pv 0) (AA (Aa (v := .ref T.A2) (by rfl) T.E7 rfl) AB))) (Bh (pec Az (pv 1) AC)))))))
    AM)
   (AD (AT (ptc Az (pv 1) AC) (AE (AG (AK (AY (K := K) rfl) (by rfl) T.AS AR (AA (pv 0) (AA (Aa (v := .ref T.BR) (by rfl) T.Im rfl) AB)))))
    AM)
   (AE (AG (OD (CG (AK (AY (K := K) rfl) (by rfl) T.AS AR (AA (pv 0) (AA (Aa (v := .ref T.Au) (by rfl) T.Fs rfl) AB))) (Bh (pec Az (pv 1) AC))) (Bh (CG (AK (AY (K := K) rfl) (by rfl) T.AS AR (AA (pv 0) (AA (Aa (v := .ref T.As) (by rfl) T.Fu rfl) AB))) (Bh (pec Az (pv 1) AC))))))))))))), ?_⟩
  walk_at "Q"
  delta Hc
  by_cases h1 : t < 6
  ·rw [if_pos (z5 h1)]
   refine ⟨C, he, T.qs _ C hi, _, .inr ⟨_, rfl, rfl⟩, _, T.xs.kit T.xs.nd hi (j := 0) rfl, ?_⟩
   rw [show Ny t = 0 from if_pos h1]
   exact k
  rw [if_neg (fun z => h1 (z4 z))]
  walk_at "NX"
  walk_at "Q"
  delta Hc
  by_cases h10 : t < 10
  ·rw [if_pos (z5 h10)]
   rcases (by lia : t = 6 ∨ t = 7 ∨ t = 8 ∨ t = 9) with rfl | rfl | rfl | rfl
   ·refine ⟨C, he, T.qs _ C hi, _, .inr ⟨_, rfl, rfl⟩, _, T.xs.kit T.xs.nd hi (j := 1) rfl, ?_⟩
    exact k
   ·refine ⟨C, he, T.qs _ C hi, _, .inr ⟨_, rfl, rfl⟩, _, T.xs.kit T.xs.nd hi (j := 1) rfl, ?_⟩
    rw [if_neg (by decide)]
    refine ⟨C, he, T.qs _ C hi, _, .inr ⟨_, rfl, rfl⟩, _, T.xs.kit T.xs.nd hi (j := 2) rfl, ?_⟩
    exact k
   ·refine ⟨C, he, T.qs _ C hi, _, .inr ⟨_, rfl, rfl⟩, _, T.xs.kit T.xs.nd hi (j := 1) rfl, ?_⟩
    rw [if_neg (by decide)]
    refine ⟨C, he, T.qs _ C hi, _, .inr ⟨_, rfl, rfl⟩, _, T.xs.kit T.xs.nd hi (j := 2) rfl, ?_⟩
    exact k
   ·refine ⟨C, he, T.qs _ C hi, _, .inr ⟨_, rfl, rfl⟩, _, T.xs.kit T.xs.nd hi (j := 1) rfl, ?_⟩
    rw [if_neg (by decide)]
    refine ⟨C, he, T.qs _ C hi, _, .inr ⟨_, rfl, rfl⟩, _, T.xs.kit T.xs.nd hi (j := 2) rfl, ?_⟩
    exact k
  rw [if_neg (fun z => h10 (z4 z))]
  walk_at "NX"
  walk_at "Q"
  delta Hc
  by_cases h15 : t < 15
  ·rw [if_pos (z5 h15)]
   rcases (by lia : t = 10 ∨ t = 11 ∨ t = 12 ∨ t = 13 ∨ t = 14) with rfl | rfl | rfl | rfl | rfl
   ·refine ⟨C, he, T.qs _ C hi, _, .inr ⟨_, rfl, rfl⟩, _, T.xs.kit T.xs.nd hi (j := 3) rfl, ?_⟩
    exact k
   ·refine ⟨C, he, T.qs _ C hi, _, .inr ⟨_, rfl, rfl⟩, _, T.xs.kit T.xs.nd hi (j := 3) rfl, ?_⟩
    exact k
   ·refine ⟨C, he, T.qs _ C hi, _, .inr ⟨_, rfl, rfl⟩, _, T.xs.kit T.xs.nd hi (j := 3) rfl, ?_⟩
    exact k
   ·refine ⟨C, he, T.qs _ C hi, _, .inr ⟨_, rfl, rfl⟩, _, T.xs.kit T.xs.nd hi (j := 3) rfl, ?_⟩
    exact k
   ·refine ⟨C, he, T.qs _ C hi, _, .inr ⟨_, rfl, rfl⟩, _, T.xs.kit T.xs.nd hi (j := 3) rfl, ?_⟩
    rw [if_neg (by decide)]
    refine ⟨C, he, T.qs _ C hi, _, .inr ⟨_, rfl, rfl⟩, _, T.xs.kit T.xs.nd hi (j := 6) rfl, ?_⟩
    exact k
  rw [if_neg (fun z => h15 (z4 z))]
  walk_at "NX"
  walk_at "Q"
  delta Hc
  by_cases h20 : t < 20
  ·rw [if_pos (z5 h20)]
   rcases (by lia : t = 15 ∨ t = 16 ∨ t = 17 ∨ t = 18 ∨ t = 19) with rfl | rfl | rfl | rfl | rfl
   ·refine ⟨C, he, T.qs _ C hi, _, .inr ⟨_, rfl, rfl⟩, _, T.xs.kit T.xs.nd hi (j := 7) rfl, ?_⟩
    exact k
   ·refine ⟨C, he, T.qs _ C hi, _, .inr ⟨_, rfl, rfl⟩, _, T.xs.kit T.xs.nd hi (j := 7) rfl, ?_⟩
    exact k
   ·refine ⟨C, he, T.qs _ C hi, _, .inr ⟨_, rfl, rfl⟩, _, T.xs.kit T.xs.nd hi (j := 7) rfl, ?_⟩
    exact k
   ·refine ⟨C, he, T.qs _ C hi, _, .inr ⟨_, rfl, rfl⟩, _, T.xs.kit T.xs.nd hi (j := 7) rfl, ?_⟩
    rw [if_neg (by decide)]
    refine ⟨C, he, T.qs _ C hi, _, .inr ⟨_, rfl, rfl⟩, _, T.xs.kit T.xs.nd hi (j := 8) rfl, ?_⟩
    exact k
   ·refine ⟨C, he, T.qs _ C hi, _, .inr ⟨_, rfl, rfl⟩, _, T.xs.kit T.xs.nd hi (j := 7) rfl, ?_⟩
    rw [if_neg (by decide)]
    refine ⟨C, he, T.qs _ C hi, _, .inr ⟨_, rfl, rfl⟩, _, T.xs.kit T.xs.nd hi (j := 8) rfl, ?_⟩
    exact k
  rw [if_neg (fun z => h20 (z4 z))]
  walk_at "NX"
  walk_at "Q"
  delta Hc
  by_cases h22 : t < 22
  ·rw [if_pos (z5 h22)]
   rcases (by lia : t = 20 ∨ t = 21) with rfl | rfl
   ·refine ⟨C, he, T.qs _ C hi, _, .inr ⟨_, rfl, rfl⟩, _, T.xs.kit T.xs.nd hi (j := 9) rfl, ?_⟩
    exact k
   ·refine ⟨C, he, T.qs _ C hi, _, .inr ⟨_, rfl, rfl⟩, _, T.xs.kit T.xs.nd hi (j := 9) rfl, ?_⟩
    rw [if_neg (by decide)]
    refine ⟨C, he, T.qs _ C hi, _, .inr ⟨_, rfl, rfl⟩, _, T.xs.kit T.xs.nd hi (j := 10) rfl, ?_⟩
    exact k
  rw [if_neg (fun z => h22 (z4 z))]
  walk_at "NX"
  walk_at "Q"
  delta Hc
  by_cases h22 : t = 22
  ·rw [if_pos (z5 h22)]
   subst h22
   refine ⟨C, he, T.qs _ C hi, _, .inr ⟨_, rfl, rfl⟩, _, T.xs.kit T.xs.nd hi (j := 11) rfl, ?_⟩
   exact k
  rw [if_neg (fun z => h22 (z4 z))]
  walk_at "NX"
  delta Hc
  rcases (by lia : t = 23 ∨ t = 24) with rfl | rfl
  ·refine ⟨C, he, T.qs _ C hi, _, .inr ⟨_, rfl, rfl⟩, _, T.xs.kit T.xs.nd hi (j := 4) rfl, ?_⟩
   exact k
  ·refine ⟨C, he, T.qs _ C hi, _, .inr ⟨_, rfl, rfl⟩, _, T.xs.kit T.xs.nd hi (j := 4) rfl, ?_⟩
   rw [if_neg (by decide)]
   refine ⟨C, he, T.qs _ C hi, _, .inr ⟨_, rfl, rfl⟩, _, T.xs.kit T.xs.nd hi (j := 5) rfl, ?_⟩
   exact k
theorem Ex : AL ["_law_script", "_law_turn", "_law_place", "_law_other", "_law_foot", "_law_beach", "_law_told", "_law_e"] ["_law_script"] (AF O7) := by walk_at "SC"
noncomputable def ixE : Err → Nat
 | .nogate => 0
 | .taken => 1
 | .upside => 2
 | .bounds => 3
 | .full => 4
 | .deeds => 5
 | .nothing => 6
 | .badlist => 7
 | .few => 8
 | .size => 9
 | .badthrow => 10
 | .badrow => 11
theorem Ss (t : Int) : ixE (eT t) = Ny t := by
 unfold eT Ny
 repeat' split
 all_goals rfl
theorem Vk {K : W.Frag} {mg : Str → Option Value} (T : Tx K mg) (e : Err) : ∃ C, T.err e = .ref C ∧ [T.BO, T.Bi, T.Am, T.Ac, T.Au, T.As, T.Ad, T.BF, T.BM, T.Av, T.A2, T.BR][ixE e]? = some C ∧ W.exmOne K (.ref C) (.ref T.AX) = some true := by
 cases e
 case nogate => exact ⟨_, rfl, rfl, T.Gg⟩
 case taken => exact ⟨_, rfl, rfl, T.Hm⟩
 case upside => exact ⟨_, rfl, rfl, T.ER⟩
 case bounds => exact ⟨_, rfl, rfl, T.Dv⟩
 case full => exact ⟨_, rfl, rfl, T.Eo⟩
 case deeds => exact ⟨_, rfl, rfl, T.Et⟩
 case nothing => exact ⟨_, rfl, rfl, T.Dy⟩
 case badlist => exact ⟨_, rfl, rfl, T.GS⟩
 case few => exact ⟨_, rfl, rfl, T.Gm⟩
 case size => exact ⟨_, rfl, rfl, T.Ep⟩
 case badthrow => exact ⟨_, rfl, rfl, T.Fh⟩
 case badrow => exact ⟨_, rfl, rfl, T.Gn⟩
noncomputable def OX (K : W.Frag) : Sp := fun vs H Q _ => ∃ (a : Addr) (ns : List Int), vs = [.ref a] ∧ SqL K H a (ns.map V.int) ∧ ns.length ≤ 63 ∧ LM.Tbl H Dd F8 N4 ∧ ∀ H', Q (.bl true) H'
theorem Vg (T : Tx K mg) : Aj P w K mg base CX0 12 T.S5 T.Qn ["_law_script"] (OX K) := by
 refine T.d_law.F.ok Ex (fun _ _ _ _ h => by walk_at "LN") ?_
 ·walk_at "I2"
  obtain ⟨a, ns, rfl, hS, hl, tb, k⟩ := h
  refine ⟨_, (AD (pst 1 Ex (AV Ek (pcl T.Jq (Hx T) hr Ag (AA (pv 0) (AA AC AB))) AC))
   (AD (pst 2 Ex (AV Bt (AV Ek (pcl T.Jq (Hx T) hr Ag (AA (pv 0) (AA AC AB))) AC) AC))
   (AD (pst 3 Ex (AV Bt (AV Ek (AV BA (AV BA (AV BA (pv 2) AC) AC) (AV Ek (pcl T.Jq (Hx T) hr Ag (AA (pv 0) (AA AC AB))) AC)) AC) AC))
   (AD (pst 4 Ex (AV Bt (AV Ek (pcl T.Jq (Hx T) hr Ag (AA (pv 0) (AA AC AB))) AC) AC))
   (AD (pst 5 Ex (Rk T.Kb (L6 T) (hr.mono (by decide)) (by rfl) T.Sq T.Ig.b .nil Ag))
   (AD (BK (AW (pv 5) T.AH T.At.mt (Bo T) (hr.mono (by decide)) T.At.b .nil UU (AA (pv 2) (AA (pv 4) (AA (AV BA (pv 4) (AV Ek (pcl T.Jq (Hx T) hr Ag (AA (pv 0) (AA AC AB))) AC)) AB)))))
   (AD (pst 6 Ex S6)
   (O9 (Re (i := 7) rfl rfl rfl (by rfl) T.NQ (by decide) Ex.nd rfl rfl (fun _ _ _ hp => (AE (AT (ptc Ec (pv 1) AC) (AE (BK (LZ (Pr T) (hr.mono (by decide)) (by rfl) T.IG.m T.IG.F.kp T.IG.b .nil hp (AA (pv 5) (AA (pv 1) (AA (pv 2) AB))))))
           (AE (AT (Ki (ptc Bc (pv 1) AC) (Hu (Ts (ptc Bc AC (pv 1)) (SJ (ptc Bc (pv 1) AC))).pt)).pt (AE (BK (LZ (Oe T) (hr.mono (by decide)) (by rfl) T.GZ.m T.GZ.F.kp T.GZ.b .nil hp (AA (pv 5) (AA (pv 1) (AA (pv 2) (AA (pv 3) AB)))))))
         (AE (BK (LZ (Pg T) (hr.mono (by decide)) (by rfl) T.I0.m T.I0.F.kp T.I0.b .nil hp (AA (pv 5) (AA (pv 1) (AA (pv 2) (AA (pv 3) AB))))))))))))
    (fun _ _ => (AE (pst 6 Ex (CG (AK (AY (K := K) rfl) (by rfl) T.AS AR (AA (pv 7) (AA (SQ (v := .ty "ValueError") (by rfl) T.NO Ls rfl) AB))) (CG (pec Az (pclC T.MY (OQ T) (BY.mark hr) Ag (AA (pv 7) AB)) AC) (Bh (pclC T.Nx (Ph T) (BY.mark hr) Ag (AA (pv 7) (AA (pv 1) AB))))))))))
   (AE (AG (pv 6))))))))))), ?_⟩
  walk_at "Q"
  delta GX
  refine ⟨ns, hS, ?_⟩
  have t0 := Int.emod_nonneg (ns.getD 0 0) (show (25 : Int) ≠ 0 by decide)
  have t1 := Int.emod_lt_of_pos (ns.getD 0 0) (show (0 : Int) < 25 by decide)
  generalize ns.getD 0 0 % 25 = t at *
  walk_at "NX"
  walk_at "Q"
  delta GX
  refine ⟨ns, hS, ?_⟩
  have p0 : -1000 ≤ ns.getD 1 0 % 2001 - 1000 := by lia
  have p1 : ns.getD 1 0 % 2001 - 1000 ≤ 1000 := by lia
  generalize ns.getD 1 0 % 2001 - 1000 = p at *
  walk_at "NX"
  walk_at "Q"
  delta GX
  refine ⟨ns, hS, ?_⟩
  have o0 : -1000 ≤ (p + 1000 + 1 + ns.getD 2 0 % 2000) % 2001 - 1000 := by lia
  have o1 : (p + 1000 + 1 + ns.getD 2 0 % 2000) % 2001 - 1000 ≤ 1000 := by lia
  have ne : (p + 1000 + 1 + ns.getD 2 0 % 2000) % 2001 - 1000 ≠ p := by lia
  generalize (p + 1000 + 1 + ns.getD 2 0 % 2000) % 2001 - 1000 = o at *
  walk_at "NX"
  walk_at "Q"
  delta GX
  refine ⟨ns, hS, ?_⟩
  have f0 : -900 ≤ ns.getD 3 0 % 1801 - 900 := by lia
  have f1 : ns.getD 3 0 % 1801 - 900 ≤ 900 := by lia
  generalize ns.getD 3 0 % 1801 - 900 = f at *
  walk_at "NX"
  walk_at "Q"
  walk_at "RD"
  refine Rj fun b S P H1 nb nS nP s1 hb => ?_
  walk_at "NX"
  have tb1 := Nm tb s1
  have hS1 := s1.seq hS
  walk_at "Q"
  delta GX
  obtain ⟨dx, eb⟩ := hb.at_
  refine ⟨dx, _, eb, rfl, ns, hS1, ?_⟩
  have h0 : f ≤ f + ns.getD 4 0 % 91 := by lia
  have h1 : f + ns.getD 4 0 % 91 ≤ f + 90 := by lia
  generalize f + ns.getD 4 0 % 91 = h at *
  have hE : En [] [] p f h = none := by
   unfold En
   rw [if_neg (by simp [Ab]), CL.mpr ⟨p0, p1, by show -1000 ≤ f; lia, h0, by show h ≤ 1000; lia⟩]
   rfl
  refine ⟨b, S, P, _, _, _, p, f, h, rfl, hb, fun e he => (by rw [hE] at he; cases he), fun _ H2 S2 ow2 D kp hb2 ho e2 => ?_⟩
  have w : B29 T.AN H2 b S2 P ow2 p f h o := ⟨hb2, p0, p1, o0, o1, f0, f1, h0, h1, ne⟩
  have tb2 := Qo hb kp tb1
  clear hb2 hb kp ho e2 tb1 hS1 eb hE nb nS nP s1 tb hS
  walk_at "NX"
  walk_at "Q"
  walk_at "RD"
  walk_at "NX"
  refine ⟨fun σ' H' => σ' = [some (V.ref a), some (V.int t), some (V.int p), some (V.int o), some (V.int f), some (V.ref b), some (V.bl true), none], ?_, ?_⟩
  ·have fin : ∀ H', tAs K (.ref T.AX) 7 (MD (FX (tCB (Hc K) (DT (Gj 7) (DT (tC (V.ty "ValueError")) Hb))) (FX (tOp rEq (Dg (LN T) [] E0 (DT (Gj 7) Hb)) (tC (V.int 1))) (Dg (MP T) [] E0 (DT (Gj 7) (DT (Gj 1) Hb))))) (Cw 6)) (T.err (eT t)) { nx := fun σ' _ => σ' = [some (V.ref a), some (V.int t), some (V.int p), some (V.int o), some (V.int f), some (V.ref b), some (V.bl true), none], rt := Q } [some (V.ref a), some (V.int t), some (V.int p), some (V.int o), some (V.int f), some (V.ref b), some (V.bl false), none] H' := fun H' => by
    obtain ⟨C, eC, hi, ex⟩ := Vk T (eT t)
    rw [Ss t] at hi
    refine ⟨by rw [eC]; exact ex, C, eC, fun ea nE => ?_⟩
    have he : upd H' ea (exO ea C) ea = some (exO ea C) := AQ
    generalize upd H' ea (exO ea C) = H3 at *
    delta Hc
    refine ⟨C, he, T.qs _ C hi, _, .inl ⟨_, rfl, rfl⟩, true, (T.qs _ C hi).kv, ?_⟩
    rw [if_pos rfl]
    refine ⟨ea, C, Ny t, rfl, he, hi, rfl, ?_⟩
    rw [if_pos (z5 rfl)]
    exact ⟨ea, C, t, rfl, he, hi, t0, t1, rfl⟩
   delta RV
   delta RB
   by_cases c1 : 22 < t
   ·rw [if_pos (z5 c1)]
    exact ⟨b, S2, P, ow2, p, f, h, o, t, rfl, w, by lia, fin⟩
   rw [if_neg (fun z => c1 (z4 z))]
   by_cases c2 : t < 3
   ·rw [if_pos (z5 c2)]
    exact ⟨b, S2, P, ow2, p, f, h, o, t, rfl, w, t0, by lia, .inl c2, fin⟩
   rw [if_neg (fun z => c2 (z4 z))]
   by_cases c3 : 5 < t
   ·rw [if_pos (z5 c3)]
    by_cases c4 : t < 15
    ·rw [if_pos (z5 c4)]
     exact ⟨b, S2, P, ow2, p, f, h, o, t, rfl, w, t0, by lia, .inr c3, fin⟩
    rw [if_neg (fun z => c4 (z4 z))]
    exact ⟨b, S2, P, ow2, p, f, h, o, t, rfl, w, by lia, by lia, .inr (by lia), tb2, fin⟩
   rw [if_neg (fun z => c3 (z4 z))]
   exact ⟨b, S2, P, ow2, p, f, h, o, t, rfl, w, by lia, by lia, .inl (by lia), tb2, fin⟩
  ·rintro σ' H' rfl
   walk_at "RD"
   exact k _
end
theorem T6 {l : W.OpenLaw} {w : World} {K : W.Frag} {h : Heap} {mg : Str → Option Value} {fa : Addr} (KO : OY K = P4) (X : K.In h) (G : h.Ns mainGlobals mg) (hfa : mg "law" = some (.ref fa)) :
  ∃ fd : FuncData, (∀ (s : Shared) (v : Value), BindsTo s fd ⟨[v], []⟩ [("_law_script", v)]) ∧ (∀ h', K.In h' → isCodeTable h' Dd) ∧ ∀ base : Heap, K.In base → base.Ns mainGlobals mg → Aj l.prog w K mg base CX0 12 fa fd ["_law_script"] (OX K) := by
 obtain ⟨g0, KO⟩ := ze KO
 obtain ⟨g1, KO⟩ := ze KO
 obtain ⟨g2, KO⟩ := ze KO
 obtain ⟨g3, KO⟩ := ze KO
 obtain ⟨g4, KO⟩ := ze KO
 obtain ⟨g5, KO⟩ := ze KO
 obtain ⟨g6, KO⟩ := ze KO
 obtain ⟨g7, KO⟩ := ze KO
 obtain ⟨g8, KO⟩ := ze KO
 obtain ⟨g9, KO⟩ := ze KO
 obtain ⟨g10, KO⟩ := ze KO
 obtain ⟨g11, KO⟩ := ze KO
 obtain ⟨g12, KO⟩ := ze KO
 obtain ⟨g13, KO⟩ := ze KO
 have g14 := KO
 obtain ⟨h1, h2, h3, h4, h5, h6, h7, h8⟩ := MJ g0
 obtain ⟨h9, h10, h11, h12, h13, h14, h15, h16⟩ := MJ g1
 obtain ⟨h53, h93, h94, h95, h96, h97, h98, h99⟩ := MJ g2
 obtain ⟨h100, h101, h102, h103, h104⟩ := inj5 g3
 obtain ⟨h17, h18, h19, h20, h21, h22, h23, h24⟩ := MJ g4
 obtain ⟨h25, h26, h27, h28⟩ := inj4 g5
 obtain ⟨h29, h30, h31, h32, h33, h34, h35, h36⟩ := MJ g6
 obtain ⟨h37, h38, h39, h40, h41, h42, h43, h44⟩ := MJ g7
 obtain ⟨h45, h46, h47, h48, h49, h50, h51, h52⟩ := MJ g8
 obtain ⟨h54, h55, h56, h57, h58, h59, h60, h61⟩ := MJ g9
 obtain ⟨h62, h63, h64, h65, h66, h67, h68, h69⟩ := MJ g10
 obtain ⟨h70, h71, h72, h73, h74, h75, h76, h77⟩ := MJ g11
 obtain ⟨h78, h79, h80, h81, h82, h83, h84⟩ := inj7 g12
 obtain ⟨h85, h86, h87, h88, h89, h90, h92⟩ := inj7 g13
 have h91 := inj1 g14
 obtain ⟨AN, aC_Beach, pg_Beach, hd_Beach, po_Beach, sa_Beach, Kb, kc_Beach, na_Beach⟩ := Ru h1
 obtain ⟨AX, aC_BeachError, ex_BeachError⟩ := Bk h2
 obtain ⟨BO, aC_NoGate, ex_NoGate⟩ := Bk h3
 obtain ⟨Bi, aC_Taken, ex_Taken⟩ := Bk h4
 obtain ⟨Am, aC_UpsideDown, ex_UpsideDown⟩ := Bk h5
 obtain ⟨Ac, aC_OutOfBounds, ex_OutOfBounds⟩ := Bk h6
 obtain ⟨Au, aC_BeachFull, ex_BeachFull⟩ := Bk h7
 obtain ⟨As, aC_DeedsFull, ex_DeedsFull⟩ := Bk h8
 obtain ⟨Ad, aC_NothingBack, ex_NothingBack⟩ := Bk h9
 obtain ⟨BF, aC_BadList, ex_BadList⟩ := Bk h10
 obtain ⟨BM, aC_TooFew, ex_TooFew⟩ := Bk h11
 obtain ⟨Av, aC_WrongSize, ex_WrongSize⟩ := Bk h12
 obtain ⟨A2, aC_BadThrow, ex_BadThrow⟩ := Bk h13
 obtain ⟨BR, aC_BadRow, ex_BadRow⟩ := Bk h14
 obtain ⟨f1, fd1, d1⟩ := Ah (ps := ["place", "height", "start", "end"]) X G h29 fun _ _ _ _ _ _ us hl => by walk_at "b4"
 obtain ⟨f2, fd2, d2⟩ := Ah (ps := ["one", "two", "three"]) X G h30 fun _ _ _ _ _ _ us hl => by walk_at "b3"
 obtain ⟨f3, fd3, d3⟩ := Ah (ps := ["gates"]) X G h31 fun _ _ _ _ _ _ us hl => by walk_at "b1"
 obtain ⟨f4, fd4, d4⟩ := Ah (ps := ["one", "two"]) X G h32 fun _ _ _ _ _ _ us hl => by walk_at "b2"
 obtain ⟨f5, fd5, d5⟩ := Ah (ps := ["top", "bottom"]) X G h33 fun _ _ _ _ _ _ us hl => by walk_at "b2"
 obtain ⟨f6, fd6, d6⟩ := Ah (ps := ["one", "two"]) X G h34 fun _ _ _ _ _ _ us hl => by walk_at "b2"
 obtain ⟨f7, fd7, d7⟩ := Ah (ps := ["throw", "place"]) X G h35 fun _ _ _ _ _ _ us hl => by walk_at "b2"
 obtain ⟨f8, fd8, d8⟩ := Ah (ps := ["place", "height", "other", "second"]) X G h36 fun _ _ _ _ _ _ us hl => by walk_at "b4"
 obtain ⟨f9, fd9, d9⟩ := Ah (ps := ["throw", "gate"]) X G h37 fun _ _ _ _ _ _ us hl => by walk_at "b2"
 obtain ⟨f10, fd10, d10⟩ := Ah (ps := ["throw", "gates"]) X G h38 fun _ _ _ _ _ _ us hl => by walk_at "b2"
 obtain ⟨f11, fd11, d11⟩ := Ah (ps := ["throw", "ordered"]) X G h39 fun _ _ _ _ _ _ us hl => by walk_at "b2"
 obtain ⟨f12, fd12, d12⟩ := Ah (ps := ["earlier", "later"]) X G h40 fun _ _ _ _ _ _ us hl => by walk_at "b2"
 obtain ⟨f13, fd13, d13⟩ := Ah (ps := ["ordered"]) X G h41 fun _ _ _ _ _ _ us hl => by walk_at "b1"
 obtain ⟨f14, fd14, d14⟩ := Ah (ps := ["ordered"]) X G h42 fun _ _ _ _ _ _ us hl => by walk_at "b1"
 obtain ⟨f15, fd15, d15⟩ := Ah (ps := ["height"]) X G h43 fun _ _ _ _ _ _ us hl => by walk_at "b1"
 obtain ⟨f16, fd16, d16⟩ := Ah (ps := ["ordered"]) X G h44 fun _ _ _ _ _ _ us hl => by walk_at "b1"
 obtain ⟨f17, fd17, d17⟩ := Ah (ps := ["gates"]) X G h45 fun _ _ _ _ _ _ us hl => by walk_at "b1"
 obtain ⟨f18, fd18, d18⟩ := Ah (ps := ["gates"]) X G h46 fun _ _ _ _ _ _ us hl => by walk_at "b1"
 obtain ⟨f19, fd19, d19⟩ := Ah (ps := ["gates"]) X G h47 fun _ _ _ _ _ _ us hl => by walk_at "b1"
 obtain ⟨f20, fd20, d20⟩ := Ah (ps := ["gate"]) X G h48 fun _ _ _ _ _ _ us hl => by walk_at "b1"
 obtain ⟨f21, fd21, d21⟩ := Ah (ps := ["throw"]) X G h49 fun _ _ _ _ _ _ us hl => by walk_at "b1"
 obtain ⟨f22, fd22, d22⟩ := Ah (ps := ["gates"]) X G h50 fun _ _ _ _ _ _ us hl => by walk_at "b1"
 obtain ⟨f23, fd23, d23⟩ := Ah (ps := ["ordered"]) X G h51 fun _ _ _ _ _ _ us hl => by walk_at "b1"
 obtain ⟨f24, fd24, d24⟩ := Ah (ps := ["gates"]) X G h52 fun _ _ _ _ _ _ us hl => by walk_at "b1"
 obtain ⟨c24, la24, isT⟩ := LM.R9 X G d24 h53
 obtain ⟨f25, fd25, d25⟩ := Ah (ps := ["gate"]) X G h54 fun _ _ _ _ _ _ us hl => by walk_at "b1"
 obtain ⟨f26, fd26, d26⟩ := Ah (ps := ["places"]) X G h55 fun _ _ _ _ _ _ us hl => by walk_at "b1"
 obtain ⟨f27, fd27, d27⟩ := Ah (ps := ["throw"]) X G h56 fun _ _ _ _ _ _ us hl => by walk_at "b1"
 obtain ⟨f28, fd28, d28⟩ := Be (ps := ["self"]) aC_Beach h57 fun _ _ _ _ _ _ us hl => by walk_at "b1"
 obtain ⟨f29, fd29, d29⟩ := Be (ps := ["self", "place"]) aC_Beach h58 fun _ _ _ _ _ _ us hl => by walk_at "b2"
 obtain ⟨f30, fd30, d30⟩ := Be (ps := ["self", "place"]) aC_Beach h59 fun _ _ _ _ _ _ us hl => by walk_at "b2"
 obtain ⟨f31, fd31, d31⟩ := Be (ps := ["self", "place", "instead"]) aC_Beach h60 fun _ _ _ _ _ _ us hl => by walk_at "b3"
 obtain ⟨f32, fd32, d32⟩ := Be (ps := ["self", "place", "foot", "head"]) aC_Beach h61 fun _ _ _ _ _ _ us hl => by walk_at "b4"
 obtain ⟨f33, fd33, d33⟩ := Be (ps := ["self", "place"]) aC_Beach h62 fun _ _ _ _ _ _ us hl => by walk_at "b2"
 obtain ⟨f34, fd34, d34⟩ := Be (ps := ["self", "place", "foot_by", "head_by"]) aC_Beach h63 fun _ _ _ _ _ _ us hl => by walk_at "b4"
 obtain ⟨f35, fd35, d35⟩ := Be (ps := ["self", "place", "foot_by", "head_by"]) aC_Beach h64 fun _ _ _ _ _ _ us hl => by walk_at "b4"
 obtain ⟨f36, fd36, d36⟩ := SB (ps := ["self", "many"]) aC_Beach h65 (fun s d _ _ _ _ _ _ _ _ _ _ _ us ho hl => by obtain ⟨x0, x1, rfl⟩ := T8 hl; exact BindsTo.of_defaults (T := d) rfl ho rfl rfl rfl) (fun s d _ _ _ _ _ _ _ _ _ _ _ us ho hl => by obtain ⟨x0, rfl⟩ := VD (Nat.succ.inj hl); exact BindsTo.of_defaults (T := d) rfl ho rfl rfl rfl)
 obtain ⟨f37, fd37, d37⟩ := Be (ps := ["self"]) aC_Beach h66 fun _ _ _ _ _ _ us hl => by walk_at "b1"
 obtain ⟨f38, fd38, d38⟩ := Be (ps := ["self"]) aC_Beach h67 fun _ _ _ _ _ _ us hl => by walk_at "b1"
 obtain ⟨f39, fd39, d39⟩ := Be (ps := ["self", "places"]) aC_Beach h68 fun _ _ _ _ _ _ us hl => by walk_at "b2"
 obtain ⟨f40, fd40, d40⟩ := Be (ps := ["self", "places"]) aC_Beach h69 fun _ _ _ _ _ _ us hl => by walk_at "b2"
 obtain ⟨f41, fd41, d41⟩ := Be (ps := ["self", "places"]) aC_Beach h70 fun _ _ _ _ _ _ us hl => by walk_at "b2"
 obtain ⟨f42, fd42, d42⟩ := Be (ps := ["self", "places"]) aC_Beach h71 fun _ _ _ _ _ _ us hl => by walk_at "b2"
 obtain ⟨f43, fd43, d43⟩ := Be (ps := ["self", "places"]) aC_Beach h72 fun _ _ _ _ _ _ us hl => by walk_at "b2"
 obtain ⟨f44, fd44, d44⟩ := Be (ps := ["self"]) aC_Beach h73 fun _ _ _ _ _ _ us hl => by walk_at "b1"
 obtain ⟨f45, fd45, d45⟩ := Be (ps := ["self", "throw"]) aC_Beach h74 fun _ _ _ _ _ _ us hl => by walk_at "b2"
 obtain ⟨f46, fd46, d46⟩ := Ah (ps := ["text"]) X G h75 fun _ _ _ _ _ _ us hl => by walk_at "b1"
 obtain ⟨f47, fd47, d47⟩ := Ah (ps := ["text"]) X G h76 fun _ _ _ _ _ _ us hl => by walk_at "b1"
 obtain ⟨f48, fd48, d48⟩ := Ah (ps := ["text"]) X G h77 fun _ _ _ _ _ _ us hl => by walk_at "b1"
 obtain ⟨f49, fd49, d49⟩ := Ah (ps := ["_law_script", "_law_k"]) X G h78 fun _ _ _ _ _ _ us hl => by walk_at "b2"
 obtain ⟨f50, fd50, d50⟩ := Ah (ps := ["_law_beach", "_law_turn", "_law_place", "_law_other"]) X G h79 fun _ _ _ _ _ _ us hl => by walk_at "b4"
 obtain ⟨f51, fd51, d51⟩ := Ah (ps := ["_law_beach", "_law_turn", "_law_place", "_law_other"]) X G h80 fun _ _ _ _ _ _ us hl => by walk_at "b4"
 obtain ⟨f52, fd52, d52⟩ := Ah (ps := ["_law_beach", "_law_turn", "_law_place"]) X G h81 fun _ _ _ _ _ _ us hl => by walk_at "b3"
 obtain ⟨f53, fd53, d53⟩ := Ah (ps := ["_law_e"]) X G h82 fun _ _ _ _ _ _ us hl => by walk_at "b1"
 obtain ⟨f54, fd54, d54⟩ := Ah (ps := ["_law_e", "_law_turn"]) X G h83 fun _ _ _ _ _ _ us hl => by walk_at "b2"
 obtain ⟨f55, oc, od, sl, kV, dc, pm, an, cd, ct, a, l, c, k⟩ := PU h84
 obtain ⟨t_LEAST, ak_LEAST⟩ := Ew h85
 obtain ⟨t_GREATEST, ak_GREATEST⟩ := Ew h86
 obtain ⟨t_MOST_GATES, ak_MOST_GATES⟩ := Ew h87
 obtain ⟨t_MOST_DEEDS, ak_MOST_DEEDS⟩ := Ew h88
 obtain ⟨t_SMALL_BEACH, ak_SMALL_BEACH⟩ := Ew h89
 obtain ⟨t_GREAT_NUMBER, ak_GREAT_NUMBER⟩ := Ew h90
 obtain ⟨t_FIGURES, ak_FIGURES⟩ := SD h91
 obtain ⟨t_MOST_FIGURES, ak_MOST_FIGURES⟩ := Ew h92
 have e := hfa.symm.trans (W.mg_of X G a)
 cases e
 let T : Tx K mg := ⟨AN,
  W.mg_of X G aC_Beach,
  ⟨pg_Beach, hd_Beach, po_Beach, sa_Beach⟩,
  na_Beach "standing" (by simp only [zH, true_or, or_true]),
  na_Beach "past" (by simp only [zH, true_or, or_true]),
  AX,
  W.mg_of X G aC_BeachError,
  ex_BeachError,
  BO,
  W.mg_of X G aC_NoGate,
  ex_NoGate,
  Bi,
  W.mg_of X G aC_Taken,
  ex_Taken,
  Am,
  W.mg_of X G aC_UpsideDown,
  ex_UpsideDown,
  Ac,
  W.mg_of X G aC_OutOfBounds,
  ex_OutOfBounds,
  Au,
  W.mg_of X G aC_BeachFull,
  ex_BeachFull,
  As,
  W.mg_of X G aC_DeedsFull,
  ex_DeedsFull,
  Ad,
  W.mg_of X G aC_NothingBack,
  ex_NothingBack,
  BF,
  W.mg_of X G aC_BadList,
  ex_BadList,
  BM,
  W.mg_of X G aC_TooFew,
  ex_TooFew,
  Av,
  W.mg_of X G aC_WrongSize,
  ex_WrongSize,
  A2,
  W.mg_of X G aC_BadThrow,
  ex_BadThrow,
  BR,
  W.mg_of X G aC_BadRow,
  ex_BadRow,
  Rq (.cons aC_NoGate (.cons aC_Taken (.cons aC_UpsideDown (.cons aC_OutOfBounds (.cons aC_BeachFull (.cons aC_DeedsFull (.cons aC_NothingBack (.cons aC_BadList (.cons aC_TooFew (.cons aC_WrongSize (.cons aC_BadThrow (.cons aC_BadRow .nil)))))))))))) h15,
  Qc (.cons aC_NoGate (.cons aC_Taken (.cons aC_UpsideDown (.cons aC_OutOfBounds (.cons aC_BeachFull (.cons aC_DeedsFull (.cons aC_NothingBack (.cons aC_BadList (.cons aC_TooFew (.cons aC_WrongSize (.cons aC_BadThrow (.cons aC_BadRow .nil)))))))))))) h16,
  Bm aC_NoGate aC_BeachError h17,
  Bm aC_Taken aC_BeachError h18,
  Bm aC_UpsideDown aC_BeachError h19,
  Bm aC_OutOfBounds aC_BeachError h20,
  Bm aC_BeachFull aC_BeachError h21,
  Bm aC_DeedsFull aC_BeachError h22,
  Bm aC_NothingBack aC_BeachError h23,
  Bm aC_BadList aC_BeachError h24,
  Bm aC_TooFew aC_BeachError h25,
  Bm aC_WrongSize aC_BeachError h26,
  Bm aC_BadThrow aC_BeachError h27,
  Bm aC_BadRow aC_BeachError h28,
  f1, fd1, d1,
  f2, fd2, d2,
  f3, fd3, d3,
  f4, fd4, d4,
  f5, fd5, d5,
  f6, fd6, d6,
  f7, fd7, d7,
  f8, fd8, d8,
  f9, fd9, d9,
  f10, fd10, d10,
  f11, fd11, d11,
  f12, fd12, d12,
  f13, fd13, d13,
  f14, fd14, d14,
  f15, fd15, d15,
  f16, fd16, d16,
  f17, fd17, d17,
  f18, fd18, d18,
  f19, fd19, d19,
  f20, fd20, d20,
  f21, fd21, d21,
  f22, fd22, d22,
  f23, fd23, d23,
  f24, fd24, d24,
  c24, la24,
  f25, fd25, d25,
  f26, fd26, d26,
  f27, fd27, d27,
  f28, fd28, d28,
  f29, fd29, d29,
  f30, fd30, d30,
  f31, fd31, d31,
  f32, fd32, d32,
  f33, fd33, d33,
  f34, fd34, d34,
  f35, fd35, d35,
  f36, fd36, d36,
  f37, fd37, d37,
  f38, fd38, d38,
  f39, fd39, d39,
  f40, fd40, d40,
  f41, fd41, d41,
  f42, fd42, d42,
  f43, fd43, d43,
  f44, fd44, d44,
  f45, fd45, d45,
  f46, fd46, d46,
  f47, fd47, d47,
  f48, fd48, d48,
  f49, fd49, d49,
  f50, fd50, d50,
  f51, fd51, d51,
  f52, fd52, d52,
  f53, fd53, d53,
  f54, fd54, d54,
  _, _, ⟨Jd l c k, W.mg_of X G a, (Jd l c k).binds (ps := ["_law_script"]) fun _ _ _ _ _ _ us hl => by walk_at "b1"⟩,
  ⟨Kb, d28.mt.1, d28.mt.2, kc_Beach⟩,
  _,
  W.mg_of X G ak_LEAST,
  ⟨_, rfl⟩,
  _,
  W.mg_of X G ak_GREATEST,
  ⟨_, rfl⟩,
  _,
  W.mg_of X G ak_MOST_GATES,
  ⟨_, rfl⟩,
  _,
  W.mg_of X G ak_MOST_DEEDS,
  ⟨_, rfl⟩,
  _,
  W.mg_of X G ak_SMALL_BEACH,
  ⟨_, rfl⟩,
  _,
  W.mg_of X G ak_GREAT_NUMBER,
  ⟨_, rfl⟩,
  _,
  W.mg_of X G ak_FIGURES,
  ⟨_, rfl⟩,
  _,
  W.mg_of X G ak_MOST_FIGURES,
  ⟨_, rfl⟩,
  W.mg_none_of X G (By h93),
  W.mg_none_of X G (By h94),
  W.mg_none_of X G (By h95),
  W.mg_none_of X G (By h96),
  W.mg_none_of X G (By h97),
  W.mg_none_of X G (By h98),
  W.mg_none_of X G (By h99),
  W.mg_none_of X G (By h100),
  W.mg_none_of X G (By h101),
  W.mg_none_of X G (By h102),
  W.mg_none_of X G (By h103),
  W.mg_none_of X G (By h104)⟩
 exact ⟨_, fun s v => .of_eq rfl, isT, fun base _ _ => Vg T⟩
end TG
open PySem PySem.W PyProof.Rows
set_option maxRecDepth 100000 in
set_option maxHeartbeats 0 in
theorem PySem.Challenge.cw_throwgate_k29_classes_holds : PySem.Challenge.rw_throwgate_k29_classes.Holds := by
 w_on; o_law
 refine holds_open (q := TG.qv) (loose := TG.JT) (Xt := fun _ => true) (XP := fun _ _ => True) (Yf := fun s => (LM.F6 (s.heap.get? TG.Dd), TG.OY (TG.Kof TG.addrs s.heap))) (Ya := fun _ => (true, TG.P4)) (YP := LM.Il TG.Dd TG.addrs TG.OY TG.P4) (N := 9848) TG.left (fun w s e => LM.Il.of (by decide) w s e) LM.Il.keeps (fun _ _ => trivial) (fun _ _ _ _ _ => trivial) (by rfl) (by rfl) (by rfl) (fun _ _ => TG.VA rfl) rfl (by assumption) (by decide +kernel) ⟨rfl, rfl, rfl, rfl, rfl, by decide +kernel⟩ ?hw ?hc
 case hw => w_witness2
 case hc =>
  exact LM.Q8 (T := TG.Dd) (l := PySem.Challenge.rw_throwgate_k29_classes) (n := 63) (k := 12) (x := "_law_script") (CX := L2.CX0) (sp := TG.OX) rfl (by decide) rfl ⟨rfl, by decide, by decide⟩ (fun w mg fa h K KO KX G hmg => TG.T6 KO KX G hmg) (fun _ _ a ns hl hO hS => ⟨a, ns, rfl, hS, hl, .inl hO.1, fun _ => rfl⟩) fun _ _ _ _ z => z
