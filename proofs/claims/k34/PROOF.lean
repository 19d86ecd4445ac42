import PyProof.Rows.All
import Wide.All
import OpenK.AllK
import Wide.FinOn
import Lean
import PyProof.EqAt
import PyProof.EqKinds
import PyProof.TupleCall
import KE.KMinKey
import KE.KIntText
import PyProof.MeetsStr2
import PyProof.FString
import PyProof.FString2
import PyProof.StrLawsTight
import PyProof.StrLawsIdx
import PyProof.StrBlockL
import PyProof.StrBlock2
import PyProof.Rows.StrJoin2
import PyProof.Rows.StrBin
import PyProof.Rows.StrItems
import KE.IntTextText
import Open.Fast
import PySem.Challenge.RW_throwgate_k34_desk_deeds
set_option bootstrap.genMatcherCode false
set_option genSizeOf false
set_option compiler.small 0
set_option Elab.async false
set_option linter.all false
set_option maxRecDepth 100000
namespace L2
open PySem PySem.Spec PyProof.Rows
noncomputable abbrev Key := Sum Int Str
noncomputable def HU : Key → Value → Bool
 | .inl k, v => Value.isInt k v
 | .inr x, v => Value.isStrOf x v
noncomputable def keyH (w : World) : Key → Int
 | .inl k => hashInt k
 | .inr x => hashStr w x
theorem Av : ∀ {k : Key} {v : Value}, HU k v = true → (∃ i t, k = Sum.inl i ∧ v = Value.int i t) ∨ (∃ x t, k = Sum.inr x ∧ v = Value.str x t)
 | .inl i, v, h => by
  obtain ⟨t, e⟩ := Value.isInt_shape (k := i) (v := v) h
  exact .inl ⟨i, t, rfl, e⟩
 | .inr x, v, h => by
  obtain ⟨t, e⟩ := Value.isStrOf_shape (x := x) (v := v) h
  exact .inr ⟨x, t, rfl, e⟩
theorem L3 (i : Int) (t : Tok) : HU (.inl i) (.int i t) = true := by simp [HU, Value.isInt]
theorem Ma (x : Str) (t : Tok) : HU (.inr x) (.str x t) = true := by simp [HU, Value.isStrOf]
theorem RM (a b : Int) : decide ((Sum.inl a : Key) = Sum.inl b) = (a == b) := by
 by_cases e : a = b
 ·subst e; simp
 ·have h : ¬ (Sum.inl a : Key) = Sum.inl b := fun q => e (Sum.inl.inj q)
  rw [decide_eq_false h]
  exact (beq_eq_false_iff_ne.mpr e).symm
theorem Sv (a b : Str) : decide ((Sum.inr a : Key) = Sum.inr b) = decide (a = b) := by
 by_cases e : a = b
 ·subst e; simp
 ·have h : ¬ (Sum.inr a : Key) = Sum.inr b := fun q => e (Sum.inr.inj q)
  rw [decide_eq_false h, decide_eq_false e]
theorem SE (a : Int) (b : Str) : decide ((Sum.inl a : Key) = Sum.inr b) = false := decide_eq_false (fun q => nomatch q)
theorem Qy (a : Str) (b : Int) : decide ((Sum.inr a : Key) = Sum.inl b) = false := decide_eq_false (fun q => nomatch q)
noncomputable def At (prog : Program) (w : World) : PySem.KeyKind prog w Key where
 is := HU
 hash := keyH w
 inj := fun v a b ha hb => by
  rcases Av ha with ⟨i, t, rfl, rfl⟩ | ⟨x, t, rfl, rfl⟩
  ·rcases Av hb with ⟨j, u, rfl, e⟩ | ⟨y, u, rfl, e⟩
   ·injection e with e1 _; rw [e1]
   ·exact nomatch e
  ·rcases Av hb with ⟨j, u, rfl, e⟩ | ⟨y, u, rfl, e⟩
   ·exact nomatch e
   ·injection e with e1 _; rw [e1]
 byValue := fun k v h => by
  rcases Av h with ⟨i, t, rfl, rfl⟩ | ⟨x, t, rfl, rfl⟩ <;> rfl
 pyHash := fun hv h => by
  rcases Av hv with ⟨i, t, rfl, rfl⟩ | ⟨x, t, rfl, rfl⟩
  ·exact wpAny_pyHash_int h
  ·exact wpAny_pyHash_str h
 eqBool := fun hu hv h => by
  rcases Av hu with ⟨i, t, rfl, rfl⟩ | ⟨x, t, rfl, rfl⟩
  ·rcases Av hv with ⟨j, u, rfl, rfl⟩ | ⟨y, u, rfl, rfl⟩
   ·rw [RM] at h; exact wpAny_eqBool_int h
   ·rw [SE] at h; exact SeqAt.EqAt.int_str i t y u _ _ _ _ h
  ·rcases Av hv with ⟨j, u, rfl, rfl⟩ | ⟨y, u, rfl, rfl⟩
   ·rw [Qy] at h; exact SeqAt.EqAt.str_int x t j u _ _ _ _ h
   ·rw [Sv] at h; exact wpAny_eqBool_str h
 «strs» := fun k x t v h => by
  rcases Av h with ⟨i, u, rfl, e⟩ | ⟨y, u, rfl, e⟩
  ·exact nomatch e
  ·injection e with e1 _
   subst e1
   cases v <;> rfl
theorem J9 (prog : Program) (w : World) (i : Int) (t : Tok) : (At prog w).is (.inl i) (.int i t) = true := L3 i t
theorem Ke (prog : Program) (w : World) (x : Str) (t : Tok) : (At prog w).is (.inr x) (.str x t) = true := Ma x t
inductive V where
 | non | bl (b : Bool) | int (i : Int) | str (x : Str) | byt (b : Array UInt8) | flt (b : UInt64) | ref (a : Addr) | ty (n : String)
 deriving DecidableEq
noncomputable def RelV : V → Value → Prop
 | .non, u => u = Value.none
 | .bl b, u => u = Value.bool b
 | .int i, u => ∃ t, u = Value.int i t
 | .str x, u => ∃ t, u = Value.str x t
 | .byt b, u => ∃ t, u = Value.bytes b t
 | .flt b, u => ∃ t, u = Value.float b t
 | .ref a, u => u = Value.ref a
 | .ty n, u => u = Value.type n
noncomputable abbrev AX : List V → List Value → Prop := Paired RelV
theorem AX.length {xs : List V} {us : List Value} (r : AX xs us) : xs.length = us.length := Paired.length r
theorem AX.get : ∀ {xs : List V} {us : List Value} {i : Nat} {x : V}, AX xs us → xs[i]? = some x → ∃ u, us[i]? = some u ∧ RelV x u
 | _, _, _, _, .nil, e => by simp at e
 | _, _, 0, _, .cons r _, e => by simp at e; subst e; exact ⟨_, rfl, r⟩
 | _, _, i + 1, x, .cons _ t, e => by
  obtain ⟨u, h1, h2⟩ := AX.get (i := i) (x := x) t (by simpa using e)
  exact ⟨u, by simpa using h1, h2⟩
theorem AX.append : ∀ {xs ys : List V} {us ws : List Value}, AX xs us → AX ys ws → AX (xs ++ ys) (us ++ ws)
 | _, _, _, _, .nil, s => s
 | _, _, _, _, .cons r t, s => .cons r (AX.append t s)
theorem AX.take : ∀ {xs : List V} {us : List Value} (n : Nat), AX xs us → AX (xs.take n) (us.take n)
 | _, _, 0, _ => .nil
 | _, _, _ + 1, .nil => .nil
 | _, _, n + 1, .cons r t => .cons r (AX.take n t)
theorem AX.drop : ∀ {xs : List V} {us : List Value} (n : Nat), AX xs us → AX (xs.drop n) (us.drop n)
 | _, _, 0, r => r
 | _, _, _ + 1, .nil => .nil
 | _, _, n + 1, .cons _ t => AX.drop n t
noncomputable def DV : Option V → Option Value → Prop
 | some v, some u => RelV v u
 | none, none => True
 | _, _ => False
noncomputable def KV {κ : Type} : List (κ × V) → List (κ × Value) → Prop := Paired fun (p : κ × V) (q : κ × Value) => p.1 = q.1 ∧ RelV p.2 q.2
noncomputable def kV : Key → V
 | .inl i => .int i
 | .inr x => .str x
inductive HO where
 | lst (xs : List V)
 | tup (xs : List V)
 | dK (kvs : List (Key × V)) | dT (kvs : List (List Key × V))
 | set (S : Int → Bool) (n : Nat)
 | ins (C dx : Addr) (fs : List (Str × V))
 | own (x : Addr)
 | xd (fs : List (Str × V))
 | met (f x : Addr)
 | rng (lo hi : Int)
 | frz (o : Obj) (u : HO)
 | tbl (ps : Array Value)
 | ext (φ : Heap → Prop)
noncomputable abbrev Hp := Addr → Option HO
noncomputable def upd (H : Hp) (a : Addr) (o : HO) : Hp := fun b => if b = a then some o else H b
theorem AG {H : Hp} {a : Addr} {o : HO} : upd H a o a = some o := by unfold upd; rw [if_pos rfl]
theorem AI {H : Hp} {a b : Addr} {o : HO} (h : b ≠ a) : upd H a o b = H b := by unfold upd; rw [if_neg h]
theorem A4 {H : Hp} {a b : Addr} {o u : HO} (h : H a = some o) (h' : H b = some u) (d : o ≠ u) : a ≠ b := by
 intro e; subst e; rw [h] at h'; exact d (Option.some.inj h')
theorem AO {H : Hp} {a b : Addr} {o : HO} (h : H a = some o) (h' : H b = none) : a ≠ b := by
 intro e; subst e; rw [h] at h'; cases h'
section
variable (P : Program) (w : World)
noncomputable def A5 (H : Hp) (h : Heap) (a : Addr) : HO → Prop
 | .lst xs => xs.length ≤ sizeLine ∧ ∃ (its : List Value) (n : Nat), AX xs its ∧ h.get? a = some { cls := .type "list", data := .seq its.toArray n }
 | .tup xs => xs.length ≤ sizeLine ∧ ∃ its : List Value, AX xs its ∧ IsTup h a its.toArray
 | .dK kvs => kvs.length ≤ sizeLine ∧ (a == sysModules) = false ∧ ∃ vs, KV kvs vs ∧ h.DictOf (At P w) a vs
 | .dT kvs => kvs.length ≤ sizeLine ∧ (a == sysModules) = false ∧ ∃ xs : List (List Key × Addr × Value),
   Paired (fun (p : List Key × V) (q : List Key × Addr × Value) => p.1 = q.1 ∧ H q.2.1 = some (.tup (p.1.map kV)) ∧ RelV p.2 q.2.2) kvs xs ∧
   ∃ o es ep, h.get? a = some o ∧ o.ExactDict ∧ o.data = .dict es ep ∧ es.toList = xs.map (entryOfKey (tupleKind (At P w))) ∧ (xs.map (·.1)).Nodup
 | .set S n => h.SetOf (intKind P w) a S n
 | .ins C dx fs => H dx = some (.own a) ∧ fs.length ≤ 1000 ∧ dx ≠ a ∧ h.get? a = some (PySem.W.instObj C dx) ∧
   ∃ mA, h.Ns1 dx mA ∧ (∀ f, DV (fs.lookup f) (mA f)) ∧ PySem.Within mA (fs.map (·.1))
 | .own _ => ∃ o, h.get? a = some o
 | .xd fs => ∃ mA, h.Ns1 a mA ∧ ∀ f, DV (fs.lookup f) (mA f)
 | .rng lo hi => ∃ t u v, h.get? a = some { cls := .type "range", data := .fields #[.int lo t, .int hi u, .int 1 v] }
 | .frz o u => h.get? a = some o ∧ A5 H h a u
 | .tbl ps => h.get? a = some { cls := .none, data := .fields ps }
 | .met f x => h.get? a = some (PySem.W.methodObj (.ref f) (.ref x))
 | .ext φ => φ h ∧ (∃ o, h.get? a = some o) ∧ ∀ h1 h2 : Heap, φ h1 → (∀ o, h1.get? a = some o → h2.get? a = some o) → φ h2
noncomputable def HOk (H : Hp) (h : Heap) : Prop := ∀ a o, H a = some o → A5 P w H h a o
end
section
variable {P : Program} {w : World} {H H' : Hp} {h h' : Heap} {a : Addr} {o : HO}
theorem A5.lt (x : A5 P w H h a o) : a < h.objs.size := by
 cases o with
 | lst xs => obtain ⟨_, _, _, _, e⟩ := x; exact Heap.lt_size e
 | tup xs => obtain ⟨_, _, _, p⟩ := x; exact p.lt
 | dK kvs => obtain ⟨_, _, _, _, o, _, _, e, _⟩ := x; exact Heap.lt_size e
 | dT kvs => obtain ⟨_, _, _, _, o, _, _, e, _⟩ := x; exact Heap.lt_size e
 | set S n => obtain ⟨o, _, _, _, e, _⟩ := x; exact Heap.lt_size e
 | ins C dx fs => obtain ⟨_, _, _, e, _⟩ := x; exact Heap.lt_size e
 | own y => obtain ⟨_, e⟩ := x; exact Heap.lt_size e
 | xd fs => obtain ⟨_, ⟨_, _, _, e, _⟩, _⟩ := x; exact Heap.lt_size e
 | rng lo hi => obtain ⟨_, _, _, e⟩ := x; exact Heap.lt_size e
 | frz ob u => obtain ⟨e, _⟩ := x; exact Heap.lt_size e
 | tbl ps => exact Heap.lt_size (show h.get? a = some _ from x)
 | met f y => exact Heap.lt_size (show h.get? a = some _ from x)
 | ext φ => obtain ⟨_, ⟨_, e⟩, _⟩ := x; exact Heap.lt_size e
theorem Paired.mapP {α β : Type} {F G : α → β → Prop} : ∀ {l₁ : List α} {l₂ : List β}, Paired F l₁ l₂ → (∀ a b, F a b → G a b) → Paired G l₁ l₂
 | _, _, .nil, _ => .nil
 | _, _, .cons r t, f => .cons (f _ _ r) (Paired.mapP t f)
theorem A5.stay (x : A5 P w H h a o) (k : ∀ b u, (b = a ∨ H b = some (.own a)) → h.get? b = some u → h'.get? b = some u)
  (ho : ∀ b, H b = some (.own a) → H' b = some (.own a)) (ht : ∀ b xs, H b = some (.tup xs) → H' b = some (.tup xs)) : A5 P w H' h' a o := by
 induction o with
 | lst xs => obtain ⟨z, its, n, r, e⟩ := x; exact ⟨z, its, n, r, k _ _ (.inl rfl) e⟩
 | tup xs => obtain ⟨z, its, r, ob, e, c⟩ := x; exact ⟨z, its, r, ob, k _ _ (.inl rfl) e, c⟩
 | dK kvs => obtain ⟨z, y, vs, r, ob, es, ep, e, c⟩ := x; exact ⟨z, y, vs, r, ob, es, ep, k _ _ (.inl rfl) e, c⟩
 | dT kvs =>
  obtain ⟨z, y, xs, r, ob, es, ep, e, c⟩ := x
  exact ⟨z, y, xs, Paired.mapP r fun p q z => ⟨z.1, ht _ _ z.2.1, z.2.2⟩, ob, es, ep, k _ _ (.inl rfl) e, c⟩
 | set S n => obtain ⟨ob, es, ep, t, e, c⟩ := x; exact ⟨ob, es, ep, t, k _ _ (.inl rfl) e, c⟩
 | ins C dx fs =>
  obtain ⟨d, z, ne, e, mA, ⟨od, es, ep, e2, c⟩, r⟩ := x
  exact ⟨ho _ d, z, ne, k _ _ (.inl rfl) e, mA, ⟨od, es, ep, k _ _ (.inr d) e2, c⟩, r⟩
 | own y => obtain ⟨ob, e⟩ := x; exact ⟨ob, k _ _ (.inl rfl) e⟩
 | xd fs => obtain ⟨mA, ⟨od, es, ep, e, c⟩, r⟩ := x; exact ⟨mA, ⟨od, es, ep, k _ _ (.inl rfl) e, c⟩, r⟩
 | rng lo hi => obtain ⟨t, u, v, e⟩ := x; exact ⟨t, u, v, k _ _ (.inl rfl) e⟩
 | frz ob u ih => obtain ⟨e, q⟩ := x; exact ⟨k _ _ (.inl rfl) e, ih q⟩
 | tbl ps =>
  have e : h.get? a = some { cls := .none, data := .fields ps } := x
  show h'.get? a = some { cls := .none, data := .fields ps }
  exact k a _ (.inl rfl) e
 | met f y =>
  have e : h.get? a = some (PySem.W.methodObj (.ref f) (.ref y)) := x
  show h'.get? a = some (PySem.W.methodObj (.ref f) (.ref y))
  exact k a _ (.inl rfl) e
 | ext φ => obtain ⟨p, ⟨o, e⟩, st⟩ := x; exact ⟨st _ _ p fun o q => k _ _ (.inl rfl) q, ⟨o, k _ _ (.inl rfl) e⟩, st⟩
theorem HOk.lt (x : HOk P w H h) (e : H a = some o) : a < h.objs.size := (x a o e).lt
theorem HOk.fresh (x : HOk P w H h) (e : h.objs.size ≤ a) : H a = none := by
 cases q : H a with
 | none => rfl
 | some u => exact absurd (Nat.lt_of_lt_of_le (x.lt q) e) (Nat.lt_irrefl _)
theorem HOk.kept (x : HOk P w H h) (k : ∀ b u, h.get? b = some u → h'.get? b = some u) : HOk P w H h' := fun a o e =>
 (x a o e).stay (fun b u _ q => k b u q) (fun _ q => q) fun _ _ q => q
theorem HOk.laid (x : HOk P w H h) (k : ∀ b u, h.get? b = some u → h'.get? b = some u) (hp : h.objs.size ≤ a) (new : A5 P w (upd H a o) h' a o) : HOk P w (upd H a o) h' := fun b u e => by
 have hn := x.fresh hp
 by_cases hb : b = a
 ·subst hb; rw [AG] at e; cases e; exact new
 ·rw [AI hb] at e
  exact (x b u e).stay (fun c v _ q => k c v q) (fun c q => by rw [AI (AO q hn)]; exact q) fun c xs q => by rw [AI (AO q hn)]; exact q
end
noncomputable def Rd (H : Hp) (a : Addr) (u : HO) : Prop := H a = some u ∨ ∃ o, H a = some (.frz o u)
theorem Rd.ok {P : Program} {w : World} {H : Hp} {h : Heap} {a : Addr} {u : HO} (r : Rd H a u) (x : HOk P w H h) : A5 P w H h a u := by
 rcases r with r | ⟨o, r⟩
 ·exact x a u r
 ·obtain ⟨_, q⟩ := x a _ r
  exact q
noncomputable def Mut : Option HO → Prop
 | some (.lst _) => True
 | some (.dK _) => True
 | some (.dT _) => True
 | some (.set _ _) => True
 | some (.ins _ _ _) => True
 | some (.ext _) => True
 | _ => False
section
variable {P : Program} {w : World} {H : Hp} {h h' : Heap} {x e : Addr} {o' : HO}
theorem HOk.write (ok : HOk P w H h) (mu : Mut (H x)) (he : e = x ∨ H e = some (.own x)) (k : ∀ b u, b ≠ e → h.get? b = some u → h'.get? b = some u) (heo : ∃ u, h'.get? e = some u)
  (new : A5 P w (upd H x o') h' x o') : HOk P w (upd H x o') h' := fun b u q => by
 have nown : ∀ c y, H c = some (.own y) → c ≠ x := fun c y r z => by subst z; rw [r] at mu; exact mu
 have ntup : ∀ c xs, H c = some (.tup xs) → c ≠ x := fun c xs r z => by subst z; rw [r] at mu; exact mu
 by_cases hb : b = x
 ·subst hb; rw [AG] at q; cases q; exact new
 ·rw [AI hb] at q
  by_cases hbe : b = e
  ·have q' : H b = some (.own x) := by
    rcases he with z | z
    ·exact absurd (hbe.trans z) hb
    ·rw [hbe]; exact z
   rw [q] at q'; cases q'
   obtain ⟨v, hv⟩ := heo
   exact ⟨v, by rw [hbe]; exact hv⟩
  ·refine (ok b u q).stay (fun c v hc r => k c v ?_ r) (fun c r => by rw [AI (nown c b r)]; exact r) fun c xs r => by rw [AI (ntup c xs r)]; exact r
   rcases hc with rfl | hc
   ·exact hbe
   ·rintro rfl
    rcases he with z | z
    ·exact nown c b hc z
    ·rw [hc] at z; cases z; exact hb rfl
end
structure Un (fs ex : List Addr) (H H' : Hp) (h h' : Heap) : Prop where
 keep : ∀ b o, h.get? b = some o → H b = none → b ∉ fs → b ∉ ex → h'.get? b = some o
 slot : ∀ b o, h.get? b = some o → H b = none → b ∈ fs → b ∉ ex → ∃ sl, h'.get? b = some { o with slots := sl }
 free : ∀ b o, h.get? b = some o → H b = none → b ∉ ex → H' b = none
 there : ∀ b o, h.get? b = some o → b ∉ ex → ∃ o', h'.get? b = some o'
 tups : ∀ b xs, H b = some (.tup xs) → H' b = some (.tup xs)
 frzs : ∀ b o u, H b = some (.frz o u) → H' b = some (.frz o u)
 tbls : ∀ b ps, H b = some (.tbl ps) → ∃ more, H' b = some (.tbl (ps ++ more))
section
variable {fs fs' ex ex' : List Addr} {H H1 H2 : Hp} {h h1 h2 h' : Heap} {a x e : Addr} {o : HO}
theorem Un.any (u : Un fs ex H H1 h h1) {b : Addr} {ob : Obj} (q : h.get? b = some ob) (n : H b = none) (hx : b ∉ ex) : ∃ sl, h1.get? b = some { ob with slots := sl } := by
 by_cases hb : b ∈ fs
 ·exact u.slot b ob q n hb hx
 ·exact ⟨ob.slots, u.keep b ob q n hb hx⟩
theorem Un.kept (k : ∀ b u, h.get? b = some u → h'.get? b = some u) : Un fs ex H H h h' :=
 ⟨fun b ob q _ _ _ => k b ob q, fun b ob q _ _ _ => ⟨ob.slots, k b ob q⟩, fun _ _ _ n _ => n, fun b ob q _ => ⟨ob, k b ob q⟩, fun _ _ q => q, fun _ _ _ q => q, fun _ ps q => ⟨#[], by rw [q]; simp⟩⟩
theorem Un.refl : Un fs ex H H h h := Un.kept fun _ _ q => q
theorem Un.laid (k : ∀ b u, h.get? b = some u → h'.get? b = some u) (hp : h.objs.size ≤ a) (hn : H a = none) : Un fs ex H (upd H a o) h h' where
 keep := fun b u q _ _ _ => k b u q
 slot := fun b u q _ _ _ => ⟨u.slots, k b u q⟩
 free := fun b u q n _ => by rw [AI (Nat.ne_of_lt (Nat.lt_of_lt_of_le (Heap.lt_size q) hp))]; exact n
 there := fun b u q _ => ⟨u, k b u q⟩
 tups := fun b xs q => by rw [AI (AO q hn)]; exact q
 frzs := fun b u xs q => by rw [AI (AO q hn)]; exact q
 tbls := fun b ps q => ⟨#[], by rw [AI (AO q hn), q]; simp⟩
theorem Un.write (mu : Mut (H x)) (he : e = x ∨ H e = some (.own x)) (k : ∀ b u, b ≠ e → h.get? b = some u → h'.get? b = some u) (heo : ∃ u, h'.get? e = some u) : Un fs ex H (upd H x o) h h' := by
 have hx : ∀ b, H b = none → b ≠ x := fun b n z => by subst z; rw [n] at mu; exact mu
 have hb : ∀ b, H b = none → b ≠ e := fun b n z => by
  subst z
  rcases he with r | r
  ·exact hx b n r
  ·rw [n] at r; cases r
 have hm : ∀ b u, H b = some u → ¬ Mut (some u) → b ≠ x := fun b u q nm z => by subst z; rw [q] at mu; exact nm mu
 refine ⟨fun b u q n _ _ => k b u (hb b n) q, fun b u q n _ _ => ⟨u.slots, k b u (hb b n) q⟩, fun b u q n _ => by rw [AI (hx b n)]; exact n, fun b u q _ => ?_,
  fun b xs q => by rw [AI (hm b _ q fun z => z)]; exact q, fun b u xs q => by rw [AI (hm b _ q fun z => z)]; exact q, fun b ps q => ⟨#[], by rw [AI (hm b _ q fun z => z), q]; simp⟩⟩
 by_cases hbe : b = e
 ·subst hbe; exact heo
 ·exact ⟨u, k b u hbe q⟩
end
noncomputable def trk (h : Heap) (H : Hp) : List Addr := (List.range h.objs.size).filter fun a => (H a).isSome
noncomputable def JQ (h : Heap) (H : Hp) : Heap := PySem.W.hideAll h (trk h H)
theorem L8 (h : Heap) (H : Hp) : (JQ h H).objs.size = h.objs.size := PySem.W.hideAll_size _ _
theorem NM {h : Heap} {H : Hp} {b : Addr} {o : Obj} (e : h.get? b = some o) (n : H b = none) : (JQ h H).get? b = some o :=
 PySem.W.hideAll_get _ e fun hm => by
  have q : (H b).isSome = true := (List.mem_filter.mp hm).2
  rw [n] at q; simp at q
theorem OC {h : Heap} {H : Hp} {b : Addr} {o : Obj} (e : (JQ h H).get? b = some o) : h.get? b = some o ∧ H b = none := by
 have e' : h.get? b = some o := PySem.W.of_hideAll (trk h H) e
 refine ⟨e', ?_⟩
 cases q : H b with
 | none => rfl
 | some x =>
  have hm : b ∈ trk h H := List.mem_filter.mpr ⟨List.mem_range.mpr (Heap.lt_size e'), by simp [q]⟩
  have z : (JQ h H).get? b = none := PySem.W.hideAll_none (trk h H) hm
  rw [z] at e; cases e
structure Mod (K : PySem.W.Frag) (mg : Str → Option Value) (base : Heap) : Prop where
 kin : K.In base
 glob : base.Ns mainGlobals mg
 blt : ∃ mb, base.Ns builtinsNs mb ∧ ∀ x : Str, x ≠ "__name__" → mb x = bootBuiltins x
 nolimit : base.NoLimit
structure Cx where
 prog : Program
 w : World
 K : PySem.W.Frag
 mg : Str → Option Value
 base : Heap
 A : Around
 N : List Str
 s₀ : Shared
 H₀ : Hp
 env : Env
 outer : List Env
 stack : List Env
 ex : List Addr
 fn : Str → Bool
 calm : Bool
 pn : List (Addr × Obj)
 xe : Value → Shared → Prop
noncomputable def frs (l : List Env) : List Addr := l.filterMap (·.frame)
noncomputable abbrev Cx.fs (X : Cx) : List Addr := frs X.outer
noncomputable def Vis (sc : Scope) (x : Str) : Prop := sc.names.lookup x = some .local ∨ sc.names.lookup x = some .cell ∨ sc.names.lookup x = some .free
noncomputable def Loc (sc : Scope) (x : Str) : Prop := sc.names.lookup x = some .local ∨ sc.names.lookup x = some .cell
noncomputable def Look (env : Env) (h : Heap) (m : Str → Option Value) (x : Str) (u : Value) : Prop :=
 (env.kindOf x = some .local ∧ m x = some u) ∨ ((env.kindOf x = some .cell ∨ env.kindOf x = some .free) ∧ ∃ c, env.cells.lookup x = some c ∧ h.IsCell c (some u))
structure Cx.Ok (X : Cx) : Prop where
 mod : Mod X.K X.mg X.base
 kind : X.env.scope.kind = .function
 glob : X.env.globals = mainGlobals
 blt : X.env.builtins = builtinsNs
 above : X.s₀.heap.objs.size ≤ X.env.locals
 inj : ∀ x y c, X.env.cells.lookup x = some c → X.env.cells.lookup y = some c → x = y
 has : ∀ x, (X.env.kindOf x = some .cell ∨ X.env.kindOf x = some .free) → ∃ c, X.env.cells.lookup x = some c
 cab : ∀ x c, X.fn x = true → X.env.cells.lookup x = some c → X.s₀.heap.objs.size ≤ c
 hd : X.calm = true → X.A.handled = none
 frames : X.A.frames = some X.stack
 stk : X.stack = X.outer ∨ (X.stack = X.env :: X.outer ∧ X.env.frame = some X.env.locals)
 exf : ∀ b ∈ X.ex, b ≠ X.env.locals ∧ ∀ x c, X.env.cells.lookup x = some c → c ≠ b
 bs : ∀ b o, X.base.get? b = some o → X.s₀.heap.get? b = some o ∧ X.H₀ b = none
 bsz : X.base.objs.size ≤ X.s₀.heap.objs.size
 noex : ∀ b o, X.base.get? b = some o → b ∉ X.ex
 exfs : ∀ b ∈ X.ex, b ∉ X.fs
 funs : X.s₀.heap.FunFrames X.base X.outer
 frf : ∀ b ∈ X.fs, X.H₀ b = none
structure Inv (X : Cx) (pins : List (Addr × Obj)) (σ : List (Option V)) (H : Hp) (s : Shared) : Prop where
 ok : X.Ok
 os : s.os = X.s₀.os
 bare : AllBare s.gens
 base : Un X.fs X.ex X.H₀ H X.s₀.heap s.heap
 loc : ∃ m, s.heap.Ns X.env.locals m ∧ ∀ (i : Nat) (x : Str) (v : V), X.N[i]? = some x → σ[i]? = some (some v) → Vis X.env.scope x → ∃ u, RelV v u ∧ Look X.env s.heap m x u
 cell : ∀ x c, X.env.cells.lookup x = some c → ∃ v, s.heap.IsCell c v
 free : H X.env.locals = none
 freeC : ∀ x c, X.env.cells.lookup x = some c → H c = none
 pin : ∀ p ∈ X.pn ++ pins, s.heap.get? p.1 = some p.2 ∧ H p.1 = none ∧ p.1 ≠ X.env.locals ∧ p.1 ∉ X.fs ∧ ∀ v, p.2.data ≠ .cell v
 hok : HOk X.prog X.w H s.heap
 len : σ.length = X.N.length
section
variable {X : Cx} {pins : List (Addr × Obj)} {σ : List (Option V)} {H H' : Hp} {s : Shared} {h' : Heap}
theorem Cx.Ok.nofr (ok : X.Ok) {b : Addr} {o : Obj} (e : X.base.get? b = some o) : b ∉ X.fs := fun hb => by
 have := (ok.funs.mem hb).1
 rw [e] at this; cases this
theorem Inv.bs (I : Inv X pins σ H s) : ∀ b o, X.base.get? b = some o → s.heap.get? b = some o ∧ H b = none := fun b o e =>
 ⟨I.base.keep b o (I.ok.bs b o e).1 (I.ok.bs b o e).2 (I.ok.nofr e) (I.ok.noex b o e), I.base.free b o (I.ok.bs b o e).1 (I.ok.bs b o e).2 (I.ok.noex b o e)⟩
theorem Inv.bk (I : Inv X pins σ H s) : ∀ b o, X.base.get? b = some o → s.heap.get? b = some o := fun b o e => (I.bs b o e).1
theorem Inv.mod (I : Inv X pins σ H s) : Mod X.K X.mg X.base := I.ok.mod
theorem Inv.kIn (I : Inv X pins σ H s) : X.K.In s.heap := I.ok.mod.kin.keeps I.bk
theorem Inv.lt (I : Inv X pins σ H s) : X.env.locals < s.heap.objs.size := let ⟨_, hn, _⟩ := I.loc; hn.lt
theorem Inv.sz (I : Inv X pins σ H s) : X.s₀.heap.objs.size ≤ s.heap.objs.size := Nat.le_trans I.ok.above (Nat.le_of_lt I.lt)
theorem Inv.nofs (I : Inv X pins σ H s) {a : Addr} (h : s.heap.objs.size ≤ a) : a ∉ X.fs := fun hb => by
 obtain ⟨_, o, ho, _⟩ := I.ok.funs.mem hb
 exact absurd (Nat.lt_of_lt_of_le (Heap.lt_size ho) (Nat.le_trans I.sz h)) (Nat.lt_irrefl _)
theorem Inv.cne (I : Inv X pins σ H s) : ∀ x c, X.env.cells.lookup x = some c → c ≠ X.env.locals := fun x c e z => by
 obtain ⟨v, o, ho, hd⟩ := I.cell x c e
 obtain ⟨m, ⟨o', es, ep, ho', hd', _⟩, _⟩ := I.loc
 rw [z, ho'] at ho; cases ho; rw [hd'] at hd; cases hd
theorem Inv.funs (I : Inv X pins σ H s) : s.heap.FunFrames X.base X.outer := by
 have all : ∀ (l : List Env), (∀ b ∈ frs l, b ∈ X.fs) → X.s₀.heap.FunFrames X.base l → s.heap.FunFrames X.base l := by
  intro l
  induction l with
  | nil => intro _ _; trivial
  | cons env r ih =>
   intro hs hl
   obtain ⟨hk, ⟨L, o, hf, hn, ho, hd⟩, hr⟩ := hl
   have hL : L ∈ X.fs := hs L (by unfold frs; rw [List.filterMap_cons, hf]; exact List.mem_cons_self)
   obtain ⟨sl, e⟩ := I.base.slot L o ho (I.ok.frf L hL) hL fun z => I.ok.exfs L z hL
   exact ⟨hk, ⟨L, _, hf, hn, e, hd⟩, ih (fun b hb => hs b (by unfold frs; rw [List.filterMap_cons, hf]; exact List.mem_cons_of_mem _ hb)) hr⟩
 exact all X.outer (fun _ hb => hb) I.ok.funs
theorem Inv.stack (I : Inv X pins σ H s) : s.heap.FunFrames X.base X.stack := by
 rcases I.ok.stk with e | ⟨e, hf⟩
 ·rw [e]; exact I.funs
 ·rw [e]
  obtain ⟨m, hn, _⟩ := I.loc
  refine .cons (by rw [I.ok.kind]; decide) hf hn ?_ I.funs
  exact Heap.get?_none_of_le (Nat.le_trans I.ok.bsz I.ok.above)
theorem Inv.stkSub (I : Inv X pins σ H s) : ∀ b ∈ frs X.stack, b ∈ X.env.locals :: X.fs := fun b hb => by
 rcases I.ok.stk with e | ⟨e, hf⟩
 ·rw [e] at hb; exact List.mem_cons_of_mem _ hb
 ·rw [e] at hb
  unfold frs at hb
  rw [List.filterMap_cons, hf] at hb
  exact hb
theorem Inv.stkFree (I : Inv X pins σ H s) : ∀ b ∈ frs X.stack, H b = none := fun b hb => by
 rcases List.mem_cons.mp (I.stkSub b hb) with e | hb
 ·rw [e]; exact I.free
 ·obtain ⟨_, o, ho, _⟩ := I.ok.funs.mem hb
  exact I.base.free b o ho (I.ok.frf b hb) fun z => I.ok.exfs b z hb
theorem Inv.step {g' : Array GenState} {t' : Nat} {d' : Drawn} {ch : List Addr} (I : Inv X pins σ H s)
  (hch : ∀ b ∈ ch, (b ∈ X.ex ∨ X.s₀.heap.objs.size ≤ b) ∧ b ≠ X.env.locals ∧ (∀ x c, X.env.cells.lookup x = some c → c ≠ b) ∧ ∀ p ∈ X.pn ++ pins, p.1 ≠ b)
  (keep : ∀ b o, b ≠ X.env.locals → b ∉ X.fs → b ∉ ch → s.heap.get? b = some o → H b = none → h'.get? b = some o)
  (slot : ∀ b o, b ≠ X.env.locals → b ∈ X.fs → b ∉ ch → s.heap.get? b = some o → H b = none → ∃ sl, h'.get? b = some { o with slots := sl }) (free : ∀ b o, b ∉ ch → s.heap.get? b = some o → H b = none → H' b = none)
  (there : ∀ b o, b ∉ ch → s.heap.get? b = some o → ∃ o', h'.get? b = some o')
  (tups : ∀ b xs, H b = some (.tup xs) → H' b = some (.tup xs)) (frzs : ∀ b o u, H b = some (.frz o u) → H' b = some (.frz o u)) (tbls : ∀ b ps, H b = some (.tbl ps) → ∃ more, H' b = some (.tbl (ps ++ more)))
  (ns : ∀ m, s.heap.Ns X.env.locals m → h'.Ns X.env.locals m) (hok : HOk X.prog X.w H' h') (hg : AllBare g') :
  Inv X pins σ H' { s with heap := h', gens := g', drawn := d', toks := t' } := by
 have neL : ∀ b o, X.s₀.heap.get? b = some o → b ≠ X.env.locals := fun b o e => Nat.ne_of_lt (Nat.lt_of_lt_of_le (Heap.lt_size e) I.ok.above)
 have neC : ∀ b o, X.s₀.heap.get? b = some o → b ∉ X.ex → b ∉ ch := fun b o e hx hb => by
  rcases (hch b hb).1 with z | z
  ·exact hx z
  ·exact absurd (Nat.lt_of_lt_of_le (Heap.lt_size e) z) (Nat.lt_irrefl _)
 have cellK : ∀ x c, X.env.cells.lookup x = some c → ∀ v, s.heap.IsCell c v → h'.IsCell c v := fun x c e v ⟨o, ho, hd⟩ => by
  have nch : c ∉ ch := fun z => (hch c z).2.2.1 x c e rfl
  by_cases hc : c ∈ X.fs
  ·obtain ⟨sl, q⟩ := slot c o (I.cne x c e) hc nch ho (I.freeC x c e)
   exact ⟨_, q, hd⟩
  ·exact ⟨o, keep c o (I.cne x c e) hc nch ho (I.freeC x c e), hd⟩
 refine ⟨I.ok, I.os, hg, ⟨fun b o e n hb hx => ?_, fun b o e n hb hx => ?_, fun b o e n hx => ?_, fun b o e hx => ?_, fun b xs e => tups b xs (I.base.tups b xs e), fun b o xs e => frzs b o xs (I.base.frzs b o xs e), fun b ps e => ?_⟩, ?_, fun x c e => ?_, ?_, fun x c e => ?_, fun p hp => ?_, hok, I.len⟩
 ·exact keep b o (neL b o e) hb (neC b o e hx) (I.base.keep b o e n hb hx) (I.base.free b o e n hx)
 ·obtain ⟨sl, e1⟩ := I.base.slot b o e n hb hx
  obtain ⟨sl', e2⟩ := slot b _ (neL b o e) hb (neC b o e hx) e1 (I.base.free b o e n hx)
  exact ⟨sl', e2⟩
 ·obtain ⟨o', e1⟩ := I.base.there b o e hx
  exact free b o' (neC b o e hx) e1 (I.base.free b o e n hx)
 ·obtain ⟨o', e1⟩ := I.base.there b o e hx
  exact there b o' (neC b o e hx) e1
 ·obtain ⟨m1, e1⟩ := I.base.tbls b ps e
  obtain ⟨m2, e2⟩ := tbls b _ e1
  exact ⟨m1 ++ m2, by rw [e2, Array.append_assoc]⟩
 ·obtain ⟨m, hn, hl⟩ := I.loc
  refine ⟨m, ns m hn, fun i x v e1 e2 e3 => ?_⟩
  obtain ⟨u, r, l⟩ := hl i x v e1 e2 e3
  refine ⟨u, r, ?_⟩
  rcases l with l | ⟨k, c, e, z⟩
  ·exact .inl l
  ·exact .inr ⟨k, c, e, cellK x c e _ z⟩
 ·obtain ⟨v, z⟩ := I.cell x c e
  exact ⟨v, cellK x c e v z⟩
 ·obtain ⟨m, ⟨o, _, _, ho, _⟩, _⟩ := I.loc
  exact free _ o (fun z => (hch _ z).2.1 rfl) ho I.free
 ·obtain ⟨v, o, ho, hd⟩ := I.cell x c e
  exact free c o (fun z => (hch c z).2.2.1 x c e rfl) ho (I.freeC x c e)
 ·obtain ⟨e, n, ne, nf, d⟩ := I.pin p hp
  have nch : p.1 ∉ ch := fun z => (hch p.1 z).2.2.2 p hp rfl
  exact ⟨keep p.1 p.2 ne nf nch e n, free p.1 p.2 nch e n, ne, nf, d⟩
theorem Inv.un {t' : Nat} (I : Inv X pins σ H s) (u : Un X.fs [] H H' s.heap h') (hok : HOk X.prog X.w H' h') : Inv X pins σ H' { s with heap := h', toks := t' } := by
 obtain ⟨m, ⟨o, es, ep, ho, r⟩, _⟩ := id I.loc
 obtain ⟨sl, hL⟩ := u.any ho I.free (by simp)
 exact I.step (g' := s.gens) (d' := s.drawn) (ch := []) (fun _ z => nomatch z) (fun b o _ hb _ e n => u.keep b o e n hb (by simp)) (fun b o _ hb _ e n => u.slot b o e n hb (by simp)) (fun b o _ e n => u.free b o e n (by simp)) (fun b o _ e => u.there b o e (by simp)) u.tups u.frzs u.tbls (fun m' hm => by
  obtain ⟨o', es', ep', ho', r'⟩ := hm
  rw [ho] at ho'; cases ho'
  exact ⟨_, es', ep', hL, r'⟩) hok I.bare
theorem Inv.call {g' : Array GenState} {t' : Nat} {d' : Drawn} {ch : List Addr} (I : Inv X pins σ H s) (u : Un (frs X.stack) ch H H' s.heap h') (hok : HOk X.prog X.w H' h') (hg : AllBare g')
  (hch : ∀ b ∈ ch, (b ∈ X.ex ∨ X.s₀.heap.objs.size ≤ b) ∧ b ≠ X.env.locals ∧ (∀ x c, X.env.cells.lookup x = some c → c ≠ b) ∧ ∀ p ∈ X.pn ++ pins, p.1 ≠ b) :
  Inv X pins σ H' { s with heap := h', gens := g', drawn := d', toks := t' } := by
 obtain ⟨m, ⟨o, es, ep, ho, r⟩, _⟩ := id I.loc
 obtain ⟨sl, hL⟩ := u.any ho I.free fun z => (hch _ z).2.1 rfl
 exact I.step (ch := ch) hch (fun b o hL hb hc e n => u.keep b o e n (fun z => (List.mem_cons.mp (I.stkSub b z)).elim hL hb) hc) (fun b o _ _ hc e n => u.any e n hc) (fun b o hc e n => u.free b o e n hc) (fun b o hc e => u.there b o e hc) u.tups u.frzs u.tbls (fun m' hm => by
  obtain ⟨o', es', ep', ho', r'⟩ := hm
  rw [ho] at ho'; cases ho'
  exact ⟨_, es', ep', hL, r'⟩) hok hg
theorem Inv.turned {t' : Nat} {it : Addr} (I : Inv X pins σ H s) (k : ∀ b o, b ≠ it → s.heap.get? b = some o → h'.get? b = some o) (hn : H it = none) (hL : it ≠ X.env.locals)
  (h1 : it ∈ X.ex ∨ X.s₀.heap.objs.size ≤ it) (h2 : ∀ x c, X.env.cells.lookup x = some c → c ≠ it) (h3 : ∀ p ∈ X.pn ++ pins, p.1 ≠ it) : Inv X pins σ H { s with heap := h', toks := t' } := by
 have nit : ∀ b u, H b = some u → b ≠ it := fun b u e z => by rw [z, hn] at e; cases e
 refine I.step (g' := s.gens) (d' := s.drawn) (ch := [it]) (fun b hb => ?_) (fun b o _ _ hc e _ => k b o (fun z => hc (by simp [z])) e) (fun b o _ _ hc e _ => ⟨o.slots, k b o (fun z => hc (by simp [z])) e⟩) (fun _ _ _ _ n => n)
  (fun b o hc e => ⟨o, k b o (fun z => hc (by simp [z])) e⟩) (fun _ _ e => e) (fun _ _ _ e => e) (fun b ps e => ⟨#[], by rw [e]; simp⟩) (fun m hm => ?_) (fun b u e => ?_) I.bare
 ·have e : b = it := by simpa using hb
  subst e
  exact ⟨h1, hL, h2, h3⟩
 ·obtain ⟨o, es, ep, ho, r⟩ := hm
  exact ⟨o, es, ep, k _ o (Ne.symm hL) ho, r⟩
 ·refine (I.hok b u e).stay (fun c v hc q => k c v ?_ q) (fun _ q => q) fun _ _ q => q
  rcases hc with z | z
  ·rw [z]; exact nit b u e
  ·exact nit c _ z
theorem Inv.tok (I : Inv X pins σ H s) (t : Nat) : Inv X pins σ H { s with toks := t } := I.un (h' := s.heap) (t' := t) Un.refl I.hok
theorem Inv.kept {t' : Nat} (I : Inv X pins σ H s) (k : ∀ b u, s.heap.get? b = some u → h'.get? b = some u) : Inv X pins σ H { s with heap := h', toks := t' } := I.un (Un.kept k) (I.hok.kept k)
theorem Inv.laid {a : Addr} {o : HO} {t' : Nat} (I : Inv X pins σ H s) (k : ∀ b u, s.heap.get? b = some u → h'.get? b = some u) (hp : s.heap.objs.size ≤ a) (new : A5 X.prog X.w (upd H a o) h' a o) :
  Inv X pins σ (upd H a o) { s with heap := h', toks := t' } := I.un (Un.laid k hp (I.hok.fresh hp)) (I.hok.laid k hp new)
theorem Inv.write {x e : Addr} {o : HO} {t' : Nat} (I : Inv X pins σ H s) (mu : Mut (H x)) (he : e = x ∨ H e = some (.own x)) (k : ∀ b u, b ≠ e → s.heap.get? b = some u → h'.get? b = some u) (heo : ∃ u, h'.get? e = some u)
  (new : A5 X.prog X.w (upd H x o) h' x o) : Inv X pins σ (upd H x o) { s with heap := h', toks := t' } := I.un (Un.write mu he k heo) (I.hok.write mu he k heo new)
theorem Inv.pins_of {pins' : List (Addr × Obj)} (I : Inv X pins σ H s) (h : ∀ p ∈ pins', s.heap.get? p.1 = some p.2 ∧ H p.1 = none ∧ p.1 ≠ X.env.locals ∧ p.1 ∉ X.fs ∧ ∀ v, p.2.data ≠ .cell v) : Inv X pins' σ H s :=
 ⟨I.ok, I.os, I.bare, I.base, I.loc, I.cell, I.free, I.freeC, fun p hp => (List.mem_append.mp hp).elim (fun z => I.pin p (List.mem_append_left _ z)) (h p), I.hok, I.len⟩
theorem KY {N : List Str} (hN : N.Nodup) {i j : Nat} {x : Str} (a : N[i]? = some x) (b : N[j]? = some x) : i = j := by
 obtain ⟨h1, e1⟩ := List.getElem?_eq_some_iff.mp a
 obtain ⟨h2, e2⟩ := List.getElem?_eq_some_iff.mp b
 exact (List.getElem_inj hN).mp (e1.trans e2.symm)
theorem Ip {M : Model} {A : Around} {E : Value → Shared → Prop} {i : Nat} {x : Str} {v : V} {u : Value} {Q : Unit → Shared → Prop} (I : Inv X pins σ H s) (hN : X.N.Nodup) (hi : X.N[i]? = some x) (hx : Loc X.env.scope x) (r : RelV v u)
  (h : ∀ s', Inv X pins (σ.set i (some v)) H s' → (∃ a, Heap.SameBut a s.heap s'.heap ∧ (a = X.env.locals ∨ X.env.cells.lookup x = some a)) → Q () s') (hf : X.fn x = true ∨ X.env.scope.names.lookup x = some .local := by first | exact .inl rfl | exact .inr rfl | assumption) : wpAny M A (storeName X.env x u) Q E s := by
 obtain ⟨m, hn, hl⟩ := id I.loc
 have hcls : (X.env.scope.kind == .class || (X.env.scope.kind == .module && X.env.locals != X.env.globals)) = false := by rw [I.ok.kind]; rfl
 have hiσ : i < σ.length := by rw [I.len]; exact (List.getElem?_eq_some_iff.mp hi).1
 have cne := I.cne
 have tracked : ∀ {a : Addr} {h' : Heap}, (∃ o, s.heap.get? a = some o ∧ H a = none) → Heap.SameBut a s.heap h' → HOk X.prog X.w H h' := fun {a h'} ha hs b ob e => by
  obtain ⟨_, _, hfree⟩ := ha
  refine (I.hok b ob e).stay (fun c w' hc q => (hs.2 c ?_).trans q) (fun _ q => q) fun _ _ q => q
  rintro rfl
  rcases hc with rfl | hc
  ·rw [hfree] at e; cases e
  ·rw [hfree] at hc; cases hc
 rcases hx with hk | hk
 ·refine wpAny_storeName_local hk hn (fun h' hn' hs => ?_) hcls
  obtain ⟨oL, _, _, hoL, _⟩ := id hn
  refine h _ ⟨I.ok, I.os, I.bare, ⟨fun b o e n hb hx => ?_, fun b o e n hb hx => ?_, I.base.free, fun b o e hx => ?_, I.base.tups, I.base.frzs, I.base.tbls⟩, ⟨_, hn', fun j y v' e1 e2 e3 => ?_⟩, fun y c e => ?_, I.free, I.freeC, fun p hp => ?_, tracked ⟨oL, hoL, I.free⟩ hs, by simpa using I.len⟩ ⟨_, hs, .inl rfl⟩
  ·exact (hs.2 b (Nat.ne_of_lt (Nat.lt_of_lt_of_le (Heap.lt_size e) I.ok.above))).trans (I.base.keep b o e n hb hx)
  ·obtain ⟨sl, e1⟩ := I.base.slot b o e n hb hx
   exact ⟨sl, (hs.2 b (Nat.ne_of_lt (Nat.lt_of_lt_of_le (Heap.lt_size e) I.ok.above))).trans e1⟩
  ·obtain ⟨o', e1⟩ := I.base.there b o e hx
   exact ⟨o', (hs.2 b (Nat.ne_of_lt (Nat.lt_of_lt_of_le (Heap.lt_size e) I.ok.above))).trans e1⟩
  ·by_cases hj : j = i
   ·subst hj
    rw [hi] at e1; cases e1
    rw [List.getElem?_set_self hiσ] at e2
    cases e2
    exact ⟨u, r, .inl ⟨hk, by simp⟩⟩
   ·rw [List.getElem?_set_ne (Ne.symm hj)] at e2
    obtain ⟨u', r', q⟩ := hl j y v' e1 e2 e3
    refine ⟨u', r', ?_⟩
    rcases q with ⟨k, e⟩ | ⟨k, c, e, z⟩
    ·refine .inl ⟨k, ?_⟩
     have : y ≠ x := fun e => hj (KY hN e1 (e ▸ hi))
     simp [this, e]
    ·exact .inr ⟨k, c, e, z.sameBut hs (cne y c e)⟩
  ·obtain ⟨w', z⟩ := I.cell y c e
   exact ⟨w', z.sameBut hs (cne y c e)⟩
  ·obtain ⟨e, n, ne, nf, d⟩ := I.pin p hp
   exact ⟨(hs.2 p.1 ne).trans e, n, ne, nf, d⟩
 ·have hfn : X.fn x = true := by
   rcases hf with z | z
   ·exact z
   ·rw [z] at hk; cases hk
  obtain ⟨c, hc⟩ := I.ok.has x (.inl hk)
  obtain ⟨w', z⟩ := I.cell x c hc
  refine wpAny_storeName_cell I.ok.kind hk hc z (fun h' hc' hs => ?_)
  obtain ⟨oc, hoc, hocd⟩ := id z
  refine h { s with heap := h' } ⟨I.ok, I.os, I.bare, ⟨fun b o e n hb hx => ?_, fun b o e n hb hx => ?_, I.base.free, fun b o e hx => ?_, I.base.tups, I.base.frzs, I.base.tbls⟩, ⟨m, hn.sameBut hs (Ne.symm (cne x c hc)), fun j y v' e1 e2 e3 => ?_⟩, fun y c' e => ?_, I.free, I.freeC, fun p hp => ?_, tracked ⟨oc, hoc, I.freeC x c hc⟩ hs, by simpa using I.len⟩ ⟨c, hs, .inr hc⟩
  ·exact (hs.2 b (Nat.ne_of_lt (Nat.lt_of_lt_of_le (Heap.lt_size e) (I.ok.cab x c hfn hc)))).trans (I.base.keep b o e n hb hx)
  ·obtain ⟨sl, e1⟩ := I.base.slot b o e n hb hx
   exact ⟨sl, (hs.2 b (Nat.ne_of_lt (Nat.lt_of_lt_of_le (Heap.lt_size e) (I.ok.cab x c hfn hc)))).trans e1⟩
  ·obtain ⟨o', e1⟩ := I.base.there b o e hx
   exact ⟨o', (hs.2 b (Nat.ne_of_lt (Nat.lt_of_lt_of_le (Heap.lt_size e) (I.ok.cab x c hfn hc)))).trans e1⟩
  ·by_cases hj : j = i
   ·subst hj
    rw [hi] at e1; cases e1
    rw [List.getElem?_set_self hiσ] at e2
    cases e2
    exact ⟨u, r, .inr ⟨.inl hk, c, hc, hc'⟩⟩
   ·rw [List.getElem?_set_ne (Ne.symm hj)] at e2
    obtain ⟨u', r', q⟩ := hl j y v' e1 e2 e3
    refine ⟨u', r', ?_⟩
    rcases q with q | ⟨k, c', e, z'⟩
    ·exact .inl q
    ·refine .inr ⟨k, c', e, z'.sameBut hs ?_⟩
     rintro rfl
     exact hj (KY hN e1 (I.ok.inj _ _ _ e hc ▸ hi))
  ·by_cases hcc : c' = c
   ·subst hcc; exact ⟨_, hc'⟩
   ·obtain ⟨w2, z2⟩ := I.cell y c' e
    exact ⟨w2, z2.sameBut hs hcc⟩
  ·obtain ⟨e, n, ne, nf, d⟩ := I.pin p hp
   refine ⟨(hs.2 p.1 ?_).trans e, n, ne, nf, d⟩
   intro q
   rw [q, hoc] at e
   have q' : oc = p.2 := Option.some.inj e
   exact d w' (by rw [← q']; exact hocd)
theorem J8 {M : Model} {A : Around} {E : Value → Shared → Prop} {i : Nat} {x : Str} {v : V} {u : Value} {Q : Unit → Shared → Prop} (I : Inv X pins σ H s) (hN : X.N.Nodup) (hi : X.N[i]? = some x) (hx : Loc X.env.scope x) (r : RelV v u)
  (h : ∀ s', Inv X pins (σ.set i (some v)) H s' → Q () s') (hf : X.fn x = true ∨ X.env.scope.names.lookup x = some .local := by first | exact .inl rfl | exact .inr rfl | assumption) : wpAny M A (storeName X.env x u) Q E s :=
 Ip I hN hi hx r (fun s' I' _ => h s' I') hf
theorem Inv.call' {s' : Shared} {ch : List Addr} (I : Inv X pins σ H s) (ho : s'.os = s.os) (u : Un (frs X.stack) ch H H' s.heap s'.heap) (hok : HOk X.prog X.w H' s'.heap) (hg : AllBare s'.gens)
  (hch : ∀ b ∈ ch, (b ∈ X.ex ∨ X.s₀.heap.objs.size ≤ b) ∧ b ≠ X.env.locals ∧ (∀ x c, X.env.cells.lookup x = some c → c ≠ b) ∧ ∀ p ∈ X.pn ++ pins, p.1 ≠ b) : Inv X pins σ H' s' := by
 obtain ⟨h', g', d', t', o'⟩ := s'
 have e : o' = s.os := ho
 subst e
 exact I.call (g' := g') (t' := t') (d' := d') u hok hg hch
end
noncomputable abbrev XK := Value → Option Addr → Hp → Prop
noncomputable abbrev St := List (Option V)
noncomputable abbrev VK := V → Hp → Prop
noncomputable abbrev TE := St → Hp → VK → Prop
noncomputable abbrev TT := St → Hp → (Bool → Hp → Prop) → Prop
noncomputable abbrev TA := St → Hp → (List V → Hp → Prop) → Prop
structure En where
 nx : St → Hp → Prop
 rt : VK
 bk : St → Hp → Prop := fun _ _ => False
 ct : St → Hp → Prop := fun _ _ => False
noncomputable abbrev TS := En → St → Hp → Prop
noncomputable def EP (X : Cx) (pins : List (Addr × Obj)) (σ : St) (Q : VK) (u : Value) (s' : Shared) : Prop := ∃ v H', Inv X pins σ H' s' ∧ RelV v u ∧ Q v H'
noncomputable def TP (X : Cx) (pins : List (Addr × Obj)) (σ : St) (Q : Bool → Hp → Prop) (b : Bool) (s' : Shared) : Prop := ∃ H', Inv X pins σ H' s' ∧ Q b H'
noncomputable def AP (X : Cx) (pins : List (Addr × Obj)) (σ : St) (Q : List V → Hp → Prop) (us : List Value) (s' : Shared) : Prop := ∃ vs H', Inv X pins σ H' s' ∧ AX vs us ∧ Q vs H'
noncomputable def SP (X : Cx) (pins : List (Addr × Obj)) (D : En) (f : Flow) (s' : Shared) : Prop :=
 match f with
 | .next => ∃ σ' H', Inv X pins σ' H' s' ∧ D.nx σ' H'
 | .brk => ∃ σ' H', Inv X pins σ' H' s' ∧ D.bk σ' H'
 | .cont => ∃ σ' H', Inv X pins σ' H' s' ∧ D.ct σ' H'
 | .ret u => ∃ v σ' H', Inv X pins σ' H' s' ∧ RelV v u ∧ D.rt v H'
noncomputable def PE (X : Cx) (e : Expr) (t : TE) : Prop :=
 ∀ (pins : List (Addr × Obj)) (s : Shared) (σ : St) (H : Hp) (Q : VK), Inv X pins σ H s → t σ H Q → wpAny (model X.prog X.w) X.A (eval e X.env) (EP X pins σ Q) X.xe s
noncomputable def PT (X : Cx) (e : Expr) (t : TT) : Prop :=
 ∀ (pins : List (Addr × Obj)) (s : Shared) (σ : St) (H : Hp) (Q : Bool → Hp → Prop), Inv X pins σ H s → t σ H Q → wpAny (model X.prog X.w) X.A (isTrue e X.env (eval e X.env)) (TP X pins σ Q) X.xe s
noncomputable def PW (X : Cx) (e : Expr) (t : TT) : Prop :=
 ∀ (whole : Sem Value) (pins : List (Addr × Obj)) (s : Shared) (σ : St) (H : Hp) (Q : Bool → Hp → Prop), Inv X pins σ H s → t σ H Q → wpAny (model X.prog X.w) X.A (isTrue e X.env whole) (TP X pins σ Q) X.xe s
theorem PW.pt {X : Cx} {e : Expr} {t : TT} (h : PW X e t) : PT X e t := h _
noncomputable def PA (X : Cx) (es : List Expr) (t : TA) : Prop :=
 ∀ (pos : Pos) (pins : List (Addr × Obj)) (s : Shared) (σ : St) (H : Hp) (Q : List V → Hp → Prop), Inv X pins σ H s → t σ H Q → wpAny (model X.prog X.w) X.A (spliced (backTo pos (starEach es X.env))) (AP X pins σ Q) X.xe s
noncomputable def PS (X : Cx) (st : Stmt) (t : TS) : Prop :=
 ∀ (pins : List (Addr × Obj)) (s : Shared) (σ : St) (H : Hp) (D : En), Inv X pins σ H s → t D σ H → wpAny (model X.prog X.w) X.A (exec st X.env) (SP X pins D) X.xe s
noncomputable def PSs (X : Cx) (st : List Stmt) (t : TS) : Prop :=
 ∀ (pins : List (Addr × Obj)) (s : Shared) (σ : St) (H : Hp) (D : En), Inv X pins σ H s → t D σ H → wpAny (model X.prog X.w) X.A (execs st X.env) (SP X pins D) X.xe s
theorem thn {α : Type} {t : Sem α} {Q Q' : α → Shared → Prop} {M : Model} {A : Around} {E : Value → Shared → Prop} {s : Shared} (h : wpAny M A t Q E s) (hQ : ∀ a s, Q a s → Q' a s) : wpAny M A t Q' E s := wpAny_mono h hQ fun _ _ x => x
section
variable {X : Cx}
noncomputable def Fm (i : Nat) : TE := fun σ H Q => ∃ v, σ[i]? = some (some v) ∧ Q v H
noncomputable def tC (v : V) : TE := fun _ H Q => Q v H
theorem R8 {i : Nat} {x : Str} {pos : Pos} (hN : X.N[i]? = some x) (hv : Vis X.env.scope x) (hd : (x == ("__debug__" : Str)) = false := by decide) (hcd : (x == ("__classdict__" : Str)) = false := by decide) : PE X (.Name x pos) (Fm i) := by
 intro pins s σ H Q I h
 obtain ⟨v, e, h⟩ := h
 obtain ⟨m, hn, hl⟩ := I.loc
 obtain ⟨u, r, l⟩ := hl i x v hN e hv
 have fin : EP X pins σ Q u s := ⟨v, H, I, r, h⟩
 rcases l with ⟨hk, hm⟩ | ⟨hk, c, hc, hcell⟩
 ·exact wpAny_Name (wpAny_loadName_local I.ok.kind hk hn hm fin) hd
 ·rcases hk with hk | hk
  ·exact wpAny_Name (wpAny_loadName_cell I.ok.kind hk hc hcell fin) hd
  ·exact wpAny_Name (wpAny_loadName_free I.ok.kind hk hc hcell fin hcd) hd
theorem AB {i j pos} : PE X (.Constant (.int i) j pos) (tC (.int i)) := fun _ _ _ H _ I h => wpAny_Constant_int ⟨.int i, H, I.tok _, ⟨_, rfl⟩, h⟩
theorem NO {b j pos} : PE X (.Constant (.bool b) j pos) (tC (.bl b)) := fun _ _ _ H _ I h => Constant_bool ⟨.bl b, H, I, rfl, h⟩
theorem QA {j pos} : PE X (.Constant .none j pos) (tC .non) := fun _ _ _ H _ I h => Constant_none ⟨.non, H, I, rfl, h⟩
theorem AJ {x j pos} : PE X (.Constant (.str x) j pos) (tC (.str x)) := fun _ _ _ H _ I h => Calls.Constant_str ⟨.str x, H, I.tok _, ⟨_, rfl⟩, h⟩
noncomputable def Gl (X : Cx) (x : Str) : Prop := X.env.kindOf x = some .globalImplicit
theorem DO {E : Value → Shared → Prop} {pins : List (Addr × Obj)} {s : Shared} {σ : St} {H : Hp} {x : Str} {u : Value} {pos : Pos} {Q : Value → Shared → Prop} (I : Inv X pins σ H s) (hg : Gl X x) (hm : X.mg x = some u) (h : Q u s)
  (hd : (x == ("__debug__" : Str)) = false := by decide) : wpAny (model X.prog X.w) X.A (eval (.Name x pos) X.env) Q E s :=
 Calls.Name_function_global I.ok.kind hg (Calls.loadGlobal_global (by rw [I.ok.glob]; exact I.mod.glob.keeps I.bk) hm h) hd
theorem G6 {E : Value → Shared → Prop} {pins : List (Addr × Obj)} {s : Shared} {σ : St} {H : Hp} {x : Str} {u : Value} {pos : Pos} {Q : Value → Shared → Prop} (I : Inv X pins σ H s) (hg : Gl X x) (hm : X.mg x = none) (hv : bootBuiltins x = some u) (h : Q u s)
  (hn : x ≠ "__name__" := by decide) (hd : (x == ("__debug__" : Str)) = false := by decide) : wpAny (model X.prog X.w) X.A (eval (.Name x pos) X.env) Q E s := by
 obtain ⟨mb, h1, h2⟩ := I.mod.blt
 exact Calls.Name_function_global I.ok.kind hg (Calls.loadGlobal_builtin (by rw [I.ok.glob]; exact I.mod.glob.keeps I.bk) hm (by rw [I.ok.blt]; exact h1.keeps I.bk) ((h2 x hn).trans hv) h) hd
theorem D9 {x : Str} {v : V} {u : Value} {pos : Pos} (hg : Gl X x) (hm : X.mg x = some u) (r : RelV v u) (hd : (x == ("__debug__" : Str)) = false := by decide) : PE X (.Name x pos) (tC v) :=
 fun _ _ _ H _ I h => DO I hg hm ⟨v, H, I, r, h⟩ hd
theorem Ji {x : Str} {v : V} {u : Value} {pos : Pos} (hg : Gl X x) (hm : X.mg x = none) (hv : bootBuiltins x = some u) (r : RelV v u) (hn : x ≠ "__name__" := by decide) (hd : (x == ("__debug__" : Str)) = false := by decide) : PE X (.Name x pos) (tC v) :=
 fun _ _ _ H _ I h => G6 I hg hm hv ⟨v, H, I, r, h⟩ hn hd
variable {a b : Expr} {ta tb : TE} {pos : Pos}
noncomputable def PC (X : Cx) (op : CmpOp) (a b : Expr) (t : TE) : Prop :=
 ∀ (pins : List (Addr × Obj)) (s : Shared) (σ : St) (H : Hp) (Q : VK), Inv X pins σ H s → t σ H Q →
  wpAny (model X.prog X.w) X.A (eval a X.env) (fun v s₁ => wpAny (model X.prog X.w) X.A (eval b X.env) (fun u s₂ => wpAny (model X.prog X.w) X.A (compareOp op v u) (EP X pins σ Q) X.xe s₂) X.xe s₁) X.xe s
noncomputable def tB (t : TE) : TT := fun σ H Q => t σ H fun x H1 => ∃ c, x = .bl c ∧ Q c H1
theorem NK {op : CmpOp} {t : TE} (h : PC X op a b t) (h1 : behindInMarks op b = false := by first | exact nobehind _ (by decide) (by decide) | rfl) : PT X (.Compare a [op] [b] pos) (tB t) := by
 intro pins s σ H Q I hw
 refine wpAny_isTrue_Compare1 (thn (h pins s σ H _ I hw) fun v s1 h1 => thn h1 fun u s2 h2 => thn h2 fun c s3 ⟨x, H1, I1, r1, q1⟩ => ?_) h1
 obtain ⟨d, rfl, q⟩ := q1
 cases r1
 exact wpAny_truthy_bool ⟨H1, I1, q⟩
theorem Ej {e : Expr} {t : TE} (h : PE X e t) (he : ∀ whole, isTrue e X.env whole = (do let v ← whole; standAt e.pos; holding [v] (truthy v)) := by intro _; rfl) : PT X e (tB t) := by
 intro pins s σ H Q I hw
 refine isTrue_plain (thn (h pins s σ H _ I hw) fun v s1 ⟨x, H1, I1, r1, q1⟩ => ?_) (he _)
 obtain ⟨d, rfl, q⟩ := q1
 cases r1
 exact wpAny_truthy_bool ⟨H1, I1, q⟩
variable {tA tB' : TT} {rest : List Expr}
noncomputable def Hx (t u : TT) : TT := fun σ H Q => t σ H fun c H1 => if c = true then u σ H1 Q else Q false H1
noncomputable def tOr (t u : TT) : TT := fun σ H Q => t σ H fun c H1 => if c = true then Q true H1 else u σ H1 Q
noncomputable def IH (t : TT) : TT := fun σ H Q => t σ H fun c H1 => Q (!c) H1
theorem D7 (ha : PT X a tA) : PW X (.BoolOp .And [a] pos) tA := by
 intro wh pins s σ H Q I h
 refine isTrue_and (thn (ha pins s σ H Q I h) fun c s1 e => ?_)
 cases c with
 | true => exact isTrue_and_nil e
 | false => exact e
theorem HQ (ha : PT X a tA) : PW X (.BoolOp .Or [a] pos) tA := by
 intro wh pins s σ H Q I h
 refine isTrue_or (thn (ha pins s σ H Q I h) fun c s1 e => ?_)
 cases c with
 | false => exact isTrue_or_nil e
 | true => exact e
theorem Et (ha : PT X a tA) (hb : PW X (.BoolOp .And (b :: rest) pos) tB') : PW X (.BoolOp .And (a :: b :: rest) pos) (Hx tA tB') := by
 intro wh pins s σ H Q I h
 refine isTrue_and (thn (ha pins s σ H _ I h) fun c s1 zq => ?_)
 obtain ⟨H1, I1, q1⟩ := zq
 cases c with
 | true => exact hb wh pins s1 σ H1 Q I1 q1
 | false => exact ⟨H1, I1, q1⟩
theorem HX (ha : PT X a tA) (hb : PW X (.BoolOp .Or (b :: rest) pos) tB') : PW X (.BoolOp .Or (a :: b :: rest) pos) (tOr tA tB') := by
 intro wh pins s σ H Q I h
 refine isTrue_or (thn (ha pins s σ H _ I h) fun c s1 zq => ?_)
 obtain ⟨H1, I1, q1⟩ := zq
 cases c with
 | true => exact ⟨H1, I1, q1⟩
 | false => exact hb wh pins s1 σ H1 Q I1 q1
theorem Km (ha : PT X a tA) : PT X (.UnaryOp .Not a pos) (IH tA) := by
 intro pins s σ H Q I h
 exact isTrue_not (ha pins s σ H (fun c H1 => Q (!c) H1) I h)
noncomputable def EO (ta tb : TE) : TE := fun σ H Q => ta σ H fun x H1 => ∃ c, x = .bl c ∧ if c = true then tb σ H1 Q else Q (.bl false) H1
noncomputable def JY (ta tb : TE) : TE := fun σ H Q => ta σ H fun x H1 => ∃ c, x = .bl c ∧ if c = true then Q (.bl true) H1 else tb σ H1 Q
noncomputable def FF (ta : TE) : TE := fun σ H Q => ta σ H fun x H1 => ∃ c, x = .bl c ∧ Q (.bl (!c)) H1
theorem RY {op} {t : TE} (h : PE X a t) : PE X (.BoolOp op [a] pos) t := fun pins s σ H Q I hw => BoolOp_one (h pins s σ H Q I hw)
theorem S9 (ha : PE X a ta) (hb : PE X (.BoolOp .And (b :: rest) pos) tb) : PE X (.BoolOp .And (a :: b :: rest) pos) (EO ta tb) := by
 intro pins s σ H Q I h
 refine BoolOp_and (thn (ha pins s σ H _ I h) fun v s1 zq => ?_)
 obtain ⟨x, H1, I1, r1, q1⟩ := zq
 obtain ⟨c, rfl, q1⟩ := q1
 cases r1
 refine wpAny_truthy_bool ?_
 cases c with
 | true => exact hb pins s1 σ H1 Q I1 q1
 | false => exact ⟨.bl false, H1, I1, rfl, q1⟩
noncomputable def tIf (t : TT) (ta tb : TE) : TE := fun σ H Q => t σ H fun c H1 => if c = true then ta σ H1 Q else tb σ H1 Q
theorem M5 {c : Expr} (hc : PT X c tA) (ha : PE X a ta) (hb : PE X b tb) : PE X (.IfExp c a b pos) (tIf tA ta tb) := by
 intro pins s σ H Q I h
 refine wpAny_IfExp (thn (hc pins s σ H _ I h) fun d s1 zq => ?_)
 obtain ⟨H1, I1, q1⟩ := zq
 cases d with
 | true => exact ha pins s1 σ H1 Q I1 q1
 | false => exact hb pins s1 σ H1 Q I1 q1
end
noncomputable def SqL (K : PySem.W.Frag) (H : Hp) (a : Addr) (xs : List V) : Prop :=
 Rd H a (.lst xs) ∨
  ∃ (o : Obj) (its : Array Value) (n : Nat), K.lookup a = some o ∧ o.cls = .type "list" ∧ o.dict = none ∧ o.data = .seq its n ∧ its.size ≤ sizeLine ∧ AX xs its.toList
noncomputable def SqT (K : PySem.W.Frag) (H : Hp) (a : Addr) (xs : List V) : Prop :=
 Rd H a (.tup xs) ∨
  ∃ (o : Obj) (its : Array Value) (n : Nat), K.lookup a = some o ∧ o.cls = .type "tuple" ∧ o.data = .seq its n ∧ its.size ≤ sizeLine ∧ AX xs its.toList
noncomputable def OH : Value → Option V
 | .none => some .non
 | .bool b => some (.bl b)
 | .int i _ => some (.int i)
 | .str x _ => some (.str x)
 | .bytes b _ => some (.byt b)
 | .float b _ => some (.flt b)
 | .ref a => some (.ref a)
 | .type n => some (.ty n)
 | _ => none
theorem RelV.abs {x : V} {u : Value} (r : RelV x u) : OH u = some x := by
 cases x with
 | non => cases r; rfl
 | bl _ => cases r; rfl
 | int _ => obtain ⟨t, rfl⟩ := r; rfl
 | str _ => obtain ⟨t, rfl⟩ := r; rfl
 | byt _ => obtain ⟨t, rfl⟩ := r; rfl
 | flt _ => obtain ⟨t, rfl⟩ := r; rfl
 | ref _ => cases r; rfl
 | ty _ => cases r; rfl
theorem RelV.inj {x y : V} {u : Value} (r : RelV x u) (q : RelV y u) : x = y := Option.some.inj (r.abs.symm.trans q.abs)
theorem AX.inj : ∀ {xs ys : List V} {us : List Value}, AX xs us → AX ys us → xs = ys
 | _, _, _, .nil, .nil => rfl
 | _, _, _, .cons r t, .cons r' t' => by rw [r.inj r', AX.inj t t']
section
variable {X : Cx} {pins : List (Addr × Obj)} {σ : St} {H : Hp} {s : Shared} {a : Addr} {xs ys : List V}
theorem SqL.of {K : PySem.W.Frag} (h : H a = some (.lst xs)) : SqL K H a xs := .inl (.inl h)
theorem SqT.of {K : PySem.W.Frag} (h : H a = some (.tup xs)) : SqT K H a xs := .inl (.inl h)
theorem Inv.list (I : Inv X pins σ H s) (h : SqL X.K H a xs) : ∃ its : List Value, AX xs its ∧ PlainL s.heap a its.toArray ∧ xs.length ≤ sizeLine := by
 rcases h with h | ⟨o, its, n, hk, hc, hd, hs, hz, r⟩
 ·obtain ⟨z, its, n, r, e⟩ := h.ok I.hok
  exact ⟨its, r, ⟨_, n, e, rfl, rfl, rfl⟩, z⟩
 ·refine ⟨its.toList, r, ⟨o, n, I.kIn a o hk, hc, hd, by simpa using hs⟩, ?_⟩
  have e := r.length
  simp only [Array.length_toList] at e
  lia
theorem Inv.tuple (I : Inv X pins σ H s) (h : SqT X.K H a xs) : ∃ its : List Value, AX xs its ∧ IsTup s.heap a its.toArray ∧ xs.length ≤ sizeLine := by
 rcases h with h | ⟨o, its, n, hk, hc, hs, hz, r⟩
 ·obtain ⟨z, its, r, p⟩ := h.ok I.hok
  exact ⟨its, r, p, z⟩
 ·refine ⟨its.toList, r, ⟨o, I.kIn a o hk, hc, n, by simpa using hs⟩, ?_⟩
  have e := r.length
  simp only [Array.length_toList] at e
  lia
theorem Inv.list_inj (I : Inv X pins σ H s) (h : SqL X.K H a xs) (h' : SqL X.K H a ys) : xs = ys := by
 obtain ⟨its, r, ⟨o, n, e, _, _, d⟩, _⟩ := I.list h
 obtain ⟨its', r', ⟨o', n', e', _, _, d'⟩, _⟩ := I.list h'
 rw [e] at e'; cases e'
 rw [d] at d'
 injection d' with d1 _
 have : its = its' := by simpa using congrArg Array.toList d1
 subst this
 exact r.inj r'
theorem Inv.tuple_inj (I : Inv X pins σ H s) (h : SqT X.K H a xs) (h' : SqT X.K H a ys) : xs = ys := by
 obtain ⟨its, r, ⟨o, e, _, n, d⟩, _⟩ := I.tuple h
 obtain ⟨its', r', ⟨o', e', _, n', d'⟩, _⟩ := I.tuple h'
 rw [e] at e'; cases e'
 rw [d] at d'
 injection d' with d1 _
 have : its = its' := by simpa using congrArg Array.toList d1
 subst this
 exact r.inj r'
end
noncomputable abbrev Cx.wish (X : Cx) (E : Value → Shared → Prop) : Cx := { X with xe := E }
noncomputable abbrev Cx.nox (X : Cx) : Cx := X.wish fun _ _ => False
theorem Cx.Ok.wish {X : Cx} (ok : X.Ok) (E : Value → Shared → Prop) : (X.wish E).Ok :=
 ⟨ok.mod, ok.kind, ok.glob, ok.blt, ok.above, ok.inj, ok.has, ok.cab, ok.hd, ok.frames, ok.stk, ok.exf, ok.bs, ok.bsz, ok.noex, ok.exfs, ok.funs, ok.frf⟩
theorem Cx.Ok.unwish {X : Cx} {E : Value → Shared → Prop} (ok : (X.wish E).Ok) : X.Ok :=
 ⟨ok.mod, ok.kind, ok.glob, ok.blt, ok.above, ok.inj, ok.has, ok.cab, ok.hd, ok.frames, ok.stk, ok.exf, ok.bs, ok.bsz, ok.noex, ok.exfs, ok.funs, ok.frf⟩
section
variable {X : Cx} {pins : List (Addr × Obj)} {σ : St} {H : Hp} {s : Shared} {E : Value → Shared → Prop}
theorem Inv.wish (I : Inv X pins σ H s) (E : Value → Shared → Prop) : Inv (X.wish E) pins σ H s := ⟨I.ok.wish E, I.os, I.bare, I.base, I.loc, I.cell, I.free, I.freeC, I.pin, I.hok, I.len⟩
theorem Inv.unwish (I : Inv (X.wish E) pins σ H s) : Inv X pins σ H s := ⟨I.ok.unwish, I.os, I.bare, I.base, I.loc, I.cell, I.free, I.freeC, I.pin, I.hok, I.len⟩
theorem SP.unwish {D : En} {f : Flow} {s' : Shared} (h : SP (X.wish E) pins D f s') : SP X pins D f s' := by
 cases f with
 | next => obtain ⟨σ', H', I, q⟩ := h; exact ⟨σ', H', I.unwish, q⟩
 | brk => obtain ⟨σ', H', I, q⟩ := h; exact ⟨σ', H', I.unwish, q⟩
 | cont => obtain ⟨σ', H', I, q⟩ := h; exact ⟨σ', H', I.unwish, q⟩
 | ret u => obtain ⟨v, σ', H', I, r, q⟩ := h; exact ⟨v, σ', H', I.unwish, r, q⟩
theorem PSs.nox {st : List Stmt} {t : TS} (h : PSs X.nox st t) : PSs X st t := fun pins s σ H D I hw =>
 wpAny_mono (h pins s σ H D (I.wish _) hw) (fun _ _ q => q.unwish) fun _ _ z => False.elim z
end
section
variable {X : Cx} {st : Stmt} {rest : List Stmt} {t u : TS} {e : Expr} {te : TE} {pos : Pos}
noncomputable def G5 : TS := fun D σ H => D.nx σ H
noncomputable def Ka (t u : TS) : TS := fun D σ H => t { D with nx := u D } σ H
theorem AT : PSs X [] G5 := fun _ _ σ H _ I h => wpAny_execs_nil ⟨σ, H, I, h⟩
theorem AD (h1 : PS X st t) (h2 : PSs X rest u) : PSs X (st :: rest) (Ka t u) := by
 intro pins s σ H D I h
 refine wpAny_execs_cons (thn (h1 pins s σ H { D with nx := u D } I h) fun f s1 q => ?_)
 cases f with
 | next =>
  obtain ⟨σ', H', I', q⟩ := q
  exact h2 pins s1 σ' H' D I' q
 | ret v => exact q
 | brk => exact q
 | cont => exact q
theorem AE (h1 : PS X st t) : PSs X [st] t := by
 intro pins s σ H D I h
 refine wpAny_execs_cons (thn (h1 pins s σ H D I h) fun f s1 q => ?_)
 cases f with
 | next => exact wpAny_execs_nil q
 | ret v => exact q
 | brk => exact q
 | cont => exact q
noncomputable def Fi : TS := fun D σ H => D.bk σ H
noncomputable def IV : TS := fun D σ H => D.ct σ H
theorem Inv.quiet {pins : List (Addr × Obj)} {σ : St} {H : Hp} {s : Shared} (I : Inv X pins σ H s) : interactive X.env = false := by simp [interactive, I.ok.kind]
noncomputable def HZ (te : TE) : TS := fun D σ H => te σ H fun _ H1 => D.nx σ H1
theorem Am (he : PE X e te) (hs : swapsWith e none pos.line X.env = pure false := by rfl) : PS X (.Expr e pos) (HZ te) := by
 intro pins s σ H D I h
 exact wpAny_Expr_any (thn (he pins s σ H _ I h) fun v s1 ⟨x, H1, I1, r1, q1⟩ => ⟨σ, H1, I1, q1⟩) I.quiet hs
noncomputable def Ky (te : TE) : TS := fun D σ H => te σ H D.rt
theorem AM (he : PE X e te) : PS X (.Return (some e) pos) (Ky te) := by
 intro pins s σ H D I h
 exact wpAny_Return_some (thn (he pins s σ H _ I h) fun v s1 ⟨x, H1, I1, r1, q1⟩ => ⟨x, σ, H1, I1, r1, q1⟩)
noncomputable def HV : TS := fun D _ H => D.rt .non H
theorem OL : PS X (.Return none pos) HV := fun _ _ σ H _ I h => wpAny_Return_none ⟨.non, σ, H, I, rfl, h⟩
noncomputable def K5 (c : TT) (t u : TS) : TS := fun D σ H => c σ H fun b H1 => if b = true then t D σ H1 else u D σ H1
theorem Ai {c : Expr} {a b : List Stmt} {tc : TT} (hc : PT X c tc) (ha : PSs X a t) (hb : PSs X b u) : PS X (.If c a b pos) (K5 tc t u) := by
 intro pins s σ H D I h
 refine wpAny_If (thn (hc pins s σ H _ I h) fun d s1 zq => ?_)
 obtain ⟨H1, I1, q1⟩ := zq
 cases d with
 | true => exact ha pins s1 σ H1 D I1 q1
 | false => exact hb pins s1 σ H1 D I1 q1
end
noncomputable abbrev TG := V → St → Hp → (St → Hp → Prop) → Prop
noncomputable abbrev TGs := List V → St → Hp → (St → Hp → Prop) → Prop
noncomputable def PG (X : Cx) (target : Expr) (t : TG) : Prop :=
 ∀ (pins : List (Addr × Obj)) (s : Shared) (σ : St) (H : Hp) (v : V) (u : Value) (Q : St → Hp → Prop), Inv X pins σ H s → RelV v u → t v σ H Q →
  wpAny (model X.prog X.w) X.A (assign target X.env u) (fun _ s' => ∃ σ' H', Inv X pins σ' H' s' ∧ Q σ' H') X.xe s
noncomputable def PGs (X : Cx) (ts : List Expr) (t : TGs) : Prop :=
 ∀ (pins : List (Addr × Obj)) (s : Shared) (σ : St) (H : Hp) (vs : List V) (us : List Value) (Q : St → Hp → Prop), Inv X pins σ H s → AX vs us → t vs σ H Q →
  wpAny (model X.prog X.w) X.A (assignInOrder ((assignEach ts X.env).map (·.2)) us) (fun _ s' => ∃ σ' H', Inv X pins σ' H' s' ∧ Q σ' H') X.xe s
noncomputable abbrev TSet := V → V → V → Hp → (Hp → Prop) → Prop
section
variable {X : Cx} {pos : Pos}
noncomputable def B4 (i : Nat) : TG := fun v σ H Q => Q (σ.set i (some v)) H
theorem Je {i : Nat} {x : Str} (hN : X.N.Nodup) (hi : X.N[i]? = some x) (hx : Loc X.env.scope x) (hf : X.fn x = true ∨ X.env.scope.names.lookup x = some .local := by first | exact .inl rfl | exact .inr rfl | assumption) : PG X (.Name x pos) (B4 i) := by
 intro pins s σ H v u Q I r h
 exact wpAny_assign_Name (J8 I hN hi hx r (fun s' I' => ⟨_, H, I', h⟩) hf)
noncomputable def Hk : TGs := fun vs σ H Q => vs = [] ∧ Q σ H
noncomputable def EW (t : TG) (u : TGs) : TGs := fun vs σ H Q => ∃ v r, vs = v :: r ∧ t v σ H fun σ' H' => u r σ' H' Q
theorem E7 : PGs X [] Hk := by
 intro pins s σ H vs us Q I r h
 obtain ⟨e, h⟩ := h
 subst e
 cases r
 exact assignInOrder_nil ⟨σ, H, I, h⟩
theorem Ao {e : Expr} {es : List Expr} {t : TG} {u : TGs} (h1 : PG X e t) (h2 : PGs X es u)
  (hs : (assignEach (e :: es) X.env).map (·.2) = assign e X.env :: (assignEach es X.env).map (·.2) := by rfl) : PGs X (e :: es) (EW t u) := by
 intro pins s σ H vs us Q I r h
 obtain ⟨v, vr, e1, h⟩ := h
 subst e1
 cases r with
 | cons r rr =>
  rw [hs]
  refine assignInOrder_cons (thn (h1 pins s σ H _ _ _ I r h) fun _ s1 zq => ?_)
  obtain ⟨σ1, H1, I1, q1⟩ := zq
  exact h2 pins s1 σ1 H1 _ _ Q I1 rr q1
noncomputable def Hz (K : PySem.W.Frag) (n : Nat) (t : TGs) : TG := fun v σ H Q => ∃ a xs, v = .ref a ∧ SqT K H a xs ∧ xs.length = n ∧ t xs σ H Q
theorem Gx {es : List Expr} {k : Nat} {t : TGs} {n : Nat} (hc : X.calm = true) (h : PGs X es t)
  (hn : (assignEach es X.env).length = n := by rfl) (hst : (assignEach es X.env).findIdx? (·.1) = none := by rfl) : PG X (.Tuple es k pos) (Hz X.K n t) := by
 intro pins s σ H v u Q I r hw
 obtain ⟨a, xs, e1, hq, hl, hw⟩ := hw
 subst e1
 cases r
 obtain ⟨its, rv, ht, hz⟩ := I.tuple hq
 refine assign_Tuple_tuple (I.ok.hd hc) ht (by simp [hn, ← hl, rv.length]) hst fun h' hx => ?_
 have I1 : Inv X pins σ H { s with heap := h' } := I.kept (t' := s.toks) fun b o e => hx b o (Nat.ne_of_lt (Heap.lt_size e)) e
 exact h pins _ σ H xs _ Q I1 (by simpa using rv) hw
noncomputable def JJ (to ti : TE) (t : TSet) : TG := fun v σ H Q => to σ H fun o H1 => ti σ H1 fun i H2 => t o i v H2 fun H3 => Q σ H3
noncomputable def IM (te : TE) (g : TG) : TS := fun D σ H => te σ H fun x H1 => g x σ H1 D.nx
theorem HD {tg e : Expr} {te : TE} {g : TG} (he : PE X e te) (hg : PG X tg g) (hs : swapsWithSole [tg] e pos.line X.env = pure false := by rfl) (hw : swappedStores [tg] e X.env = pure none := by rfl)
  (h1 : (assignEach [tg] X.env).map (·.2) = [assign tg X.env] := by rfl) : PS X (.Assign [tg] e pos) (IM te g) := by
 intro pins s σ H D I h
 refine wpAny_Assign_stores (thn (he pins s σ H _ I h) fun v s1 ⟨x, H1, I1, r1, q1⟩ => ?_) hs hw
 rw [h1]
 exact thn (hg pins s1 σ H1 x v _ I1 r1 q1) fun _ s2 q => q
theorem Rk {i : Nat} {x : Str} {e : Expr} {te : TE} {pos' : Pos} (hN : X.N.Nodup) (hi : X.N[i]? = some x) (hx : Loc X.env.scope x) (he : PE X e te) (hs : swapsWith e (some (.Name x pos')) pos.line X.env = pure false := by rfl) (hf : X.fn x = true ∨ X.env.scope.names.lookup x = some .local := by first | exact .inl rfl | exact .inr rfl | assumption) :
  PS X (.Assign [.Name x pos'] e pos) (IM te (B4 i)) := by
 intro pins s σ H D I h
 refine wpAny_Assign_Name (thn (he pins s σ H _ I h) fun v s1 ⟨y, H1, I1, r1, q1⟩ => ?_) hs
 exact J8 I1 hN hi hx r1 (fun s2 I2 => ⟨_, H1, I2, q1⟩) hf
noncomputable def L4 (i j : Nat) (ta : TA) : TS := fun D σ H => ta σ H fun vs H1 => ∃ v w, vs = [v, w] ∧ D.nx ((σ.set i (some v)).set j (some w)) H1
end
section
variable {X : Cx} {pos : Pos}
end
structure It where
 go : Nat → Hp → Prop
 yld : Nat → Hp → V → Hp → Prop
 stop : Nat → Hp → Prop
noncomputable def Ez (X : Cx) (pins : List (Addr × Obj)) (H : Hp) (b : Addr) : Prop :=
 H b = none ∧ b ≠ X.env.locals ∧ b ∉ X.fs ∧ (b ∈ X.ex ∨ X.s₀.heap.objs.size ≤ b) ∧ (∀ x c, X.env.cells.lookup x = some c → c ≠ b) ∧ ∀ p ∈ X.pn ++ pins, p.1 ≠ b
theorem Inv.fpOk {X : Cx} {pins : List (Addr × Obj)} {σ : St} {H H' : Hp} {s : Shared} {b : Addr} (I : Inv X pins σ H s) (hb : s.heap.objs.size ≤ b) (hn : H' b = none) : Ez X pins H' b := by
 refine ⟨hn, Nat.ne_of_gt (Nat.lt_of_lt_of_le I.lt hb), I.nofs hb, .inr (Nat.le_trans I.sz hb), fun x c e z => ?_, fun p hp z => ?_⟩
 ·obtain ⟨v, q⟩ := I.cell x c e
  exact absurd (Nat.lt_of_lt_of_le q.lt (by rw [z]; exact hb)) (Nat.lt_irrefl _)
 ·exact absurd (Nat.lt_of_lt_of_le (Heap.lt_size (I.pin p hp).1) (by rw [z]; exact hb)) (Nat.lt_irrefl _)
structure K4 (P : Program) (w : World) (K : PySem.W.Frag) (tg : Expr) (J : It) (fp : List Addr) (it : Addr) (tn : Nat → Heap → Prop) : Prop where
 mem : it ∈ fp
 obj : ∀ i h, tn i h → ∀ b ∈ fp, ∃ o, h.get? b = some o ∧ ∀ v, o.data ≠ .cell v
 keep : ∀ i h h', tn i h → (∀ b ∈ fp, ∀ o, h.get? b = some o → h'.get? b = some o) → tn i h'
 item : ∀ (X : Cx), X.prog = P → X.w = w → X.K = K → X.calm = true → ∀ (i : Nat) (pins : List (Addr × Obj)) (s : Shared) (σ : St) (H : Hp) (E : Value → Shared → Prop), Inv X pins σ H s → (∀ b ∈ fp, Ez X pins H b) → tn i s.heap → J.go i H →
  wpAny (model P w) X.A (pyNext (.ref it)) (fun r s1 => ∃ u, r = some u ∧
   wpAny (model P w) X.A (letOwnedTupleGo tg (.ref it) u) (fun _ s2 => ∃ x H', Inv X pins σ H' s2 ∧ RelV x u ∧ J.yld i H x H' ∧ tn (i + 1) s2.heap ∧ ∀ b ∈ fp, H' b = none) E s1) E s
 done : ∀ (X : Cx), X.prog = P → X.w = w → X.K = K → X.calm = true → ∀ (i : Nat) (pins : List (Addr × Obj)) (s : Shared) (σ : St) (H : Hp) (E : Value → Shared → Prop), Inv X pins σ H s → (∀ b ∈ fp, Ez X pins H b) → tn i s.heap → J.stop i H →
  wpAny (model P w) X.A (pyNext (.ref it)) (fun r s1 => r = none ∧ Inv X pins σ H s1) E s
 self : ∀ (A : Around) (i : Nat) (s : Shared) (Q : Value → Shared → Prop) (E : Value → Shared → Prop), tn i s.heap → Q (.ref it) s → wpAny (model P w) A (pyIter (.ref it)) Q E s
noncomputable abbrev TI := St → Hp → (It → Hp → Prop) → Prop
noncomputable def PIE (X : Cx) (pins : List (Addr × Obj)) (σ : St) (tg : Expr) (R : It → Hp → Prop) (itv : Value) (s2 : Shared) : Prop :=
 ∃ (it : Addr) (fp : List Addr) (tn : Nat → Heap → Prop) (J : It) (H' : Hp), itv = .ref it ∧ Inv X pins σ H' s2 ∧ K4 X.prog X.w X.K tg J fp it tn ∧ tn 0 s2.heap ∧ (∀ b ∈ fp, Ez X pins H' b) ∧ R J H'
noncomputable def PI (X : Cx) (tg iter : Expr) (wi : TI) : Prop :=
 ∀ (pins : List (Addr × Obj)) (s : Shared) (σ : St) (H : Hp) (R : It → Hp → Prop), Inv X pins σ H s → wi σ H R →
  wpAny (model X.prog X.w) X.A (eval iter X.env) (fun v s1 => wpAny (model X.prog X.w) X.A (pyIter v) (PIE X pins σ tg R) X.xe s1) X.xe s
theorem Lh {M : Model} {A : Around} {E : Value → Shared → Prop} {s : Shared} {tg : Expr} {it : Addr} {u : Value} {o : Obj} {n : String} {vs : Array Value} {Q : Unit → Shared → Prop} (ho : s.heap.get? it = some o) (hc : o.cls = .type n) (hd : o.data = .fields vs)
  (hn : ["enumerate", "zip", "dict_itemiterator", "dict_reverseitemiterator", "odict_iterator", "itertools.zip_longest", "itertools.pairwise"].contains n = false) (hQ : Q () s) : wpAny M A (letOwnedTupleGo tg (.ref it) u) Q E s := by
 unfold letOwnedTupleGo
 cases tg <;> first
  | exact wpAny_pure hQ
  | (cases u <;> first
    | exact wpAny_pure hQ
    | (refine wpAny_bind (wpAny_load ho ?_)
       rw [hc, hd]
       show wpAny M A (if (["enumerate", "zip", "dict_itemiterator", "dict_reverseitemiterator", "odict_iterator", "itertools.zip_longest", "itertools.pairwise"].contains n && vs[0]? == some (rawInt _)) = true then _ else _) Q E s
       rw [if_neg (by intro h; rw [hn, Bool.false_and] at h; cases h)]
       exact wpAny_pure hQ))
noncomputable def Itl (K : PySem.W.Frag) (a : Addr) : It :=
 ⟨fun i H => ∃ xs x, SqL K H a xs ∧ xs[i]? = some x, fun i H x H' => H' = H ∧ ∀ xs, SqL K H a xs → xs[i]? = some x, fun i H => ∃ xs, SqL K H a xs ∧ xs.length ≤ i⟩
noncomputable def Itt (K : PySem.W.Frag) (a : Addr) : It :=
 ⟨fun i H => ∃ xs x, SqT K H a xs ∧ xs[i]? = some x, fun i H x H' => H' = H ∧ ∀ xs, SqT K H a xs → xs[i]? = some x, fun i H => ∃ xs, SqT K H a xs ∧ xs.length ≤ i⟩
noncomputable def Itr (lo : Int) (n : Nat) : It := ⟨fun i _ => i < n, fun i H x H' => H' = H ∧ x = .int (lo + i), fun i _ => n ≤ i⟩
theorem L7 {P : Program} {w : World} {K : PySem.W.Frag} {tg : Expr} (a it : Addr) : K4 P w K tg (Itl K a) [it] it (fun i h => h.IsListIter it a i) where
 mem := by simp
 obj := fun i h st b hb => by
  have e : b = it := by simpa using hb
  subst e
  obtain ⟨o, e, c, d⟩ := st
  exact ⟨o, e, fun v z => by rw [d] at z; cases z⟩
 keep := fun i h h' st k => st.at fun o e => k it (by simp) o e
 item := by
  intro X hP hw hK hc i pins s σ H E I hf st hg
  subst hP hw hK
  obtain ⟨xs, x, hq, hx⟩ := hg
  obtain ⟨its, rv, p, hz⟩ := I.list hq
  obtain ⟨u, hu, ru⟩ := rv.get hx
  obtain ⟨f0, f1, f2, f3, f4, f5⟩ := hf it (by simp)
  refine wpAny_pyNext_list_item st p.isList (x := u) (by simpa using hu) fun h' st' sb => ?_
  have I1 : Inv X pins σ H { s with heap := h' } := I.turned (t' := s.toks) (fun b o hb e => (sb.2 b hb).trans e) f0 f1 f3 f4 f5
  obtain ⟨o, e, c, d⟩ := id st'
  exact ⟨u, rfl, Lh (s := { s with heap := h' }) e c d (by decide) ⟨x, H, I1, ru, ⟨rfl, fun ys hy => by rw [I.list_inj hy hq]; exact hx⟩, st', fun b hb => (hf b hb).1⟩⟩
 done := by
  intro X hP hw hK hc i pins s σ H E I hf st hg
  subst hP hw hK
  obtain ⟨xs, hq, hx⟩ := hg
  obtain ⟨its, rv, p, hz⟩ := I.list hq
  obtain ⟨f0, f1, f2, f3, f4, f5⟩ := hf it (by simp)
  have hl := rv.length
  exact wpAny_pyNext_list_end (I.ok.hd hc) st p.isList (by simp; lia) fun h' eb => ⟨rfl, I.turned (t' := s.toks) (fun b o hb e => eb b o hb e) f0 f1 f3 f4 f5⟩
 self := fun _ _ _ _ _ st h => wpAny_pyIter_listiter st h
theorem LC {P : Program} {w : World} {K : PySem.W.Frag} {tg : Expr} (a it : Addr) : K4 P w K tg (Itt K a) [it] it (fun i h => h.IsTupleIter it a i) where
 mem := by simp
 obj := fun i h st b hb => by
  have e : b = it := by simpa using hb
  subst e
  obtain ⟨o, e, c, d⟩ := st
  exact ⟨o, e, fun v z => by rw [d] at z; cases z⟩
 keep := fun i h h' st k => st.at fun o e => k it (by simp) o e
 item := by
  intro X hP hw hK hc i pins s σ H E I hf st hg
  subst hP hw hK
  obtain ⟨xs, x, hq, hx⟩ := hg
  obtain ⟨its, rv, p, hz⟩ := I.tuple hq
  obtain ⟨u, hu, ru⟩ := rv.get hx
  obtain ⟨f0, f1, f2, f3, f4, f5⟩ := hf it (by simp)
  refine wpAny_pyNext_tuple_item st (show s.heap.IsTuple a its.toArray from p) (x := u) (by simpa using hu) fun h' st' sb => ?_
  have I1 : Inv X pins σ H { s with heap := h' } := I.turned (t' := s.toks) (fun b o hb e => (sb.2 b hb).trans e) f0 f1 f3 f4 f5
  obtain ⟨o, e, c, d⟩ := id st'
  exact ⟨u, rfl, Lh (s := { s with heap := h' }) e c d (by decide) ⟨x, H, I1, ru, ⟨rfl, fun ys hy => by rw [I.tuple_inj hy hq]; exact hx⟩, st', fun b hb => (hf b hb).1⟩⟩
 done := by
  intro X hP hw hK hc i pins s σ H E I hf st hg
  subst hP hw hK
  obtain ⟨xs, hq, hx⟩ := hg
  obtain ⟨its, rv, p, hz⟩ := I.tuple hq
  obtain ⟨f0, f1, f2, f3, f4, f5⟩ := hf it (by simp)
  have hl := rv.length
  exact wpAny_pyNext_tuple_end (I.ok.hd hc) st (show s.heap.IsTuple a its.toArray from p) (by simp; lia) fun h' eb => ⟨rfl, I.turned (t' := s.toks) (fun b o hb e => eb b o hb e) f0 f1 f3 f4 f5⟩
 self := fun _ _ _ _ _ st h => wpAny_pyIter_tupleiter st h
theorem K7 {P : Program} {w : World} {K : PySem.W.Frag} {tg : Expr} (it : Addr) (lo : Int) (n : Nat) : K4 P w K tg (Itr lo n) [it] it (fun i h => IsRangeIter h it (lo + (i : Nat) * 1) ((n : Int) - (i : Nat)) 1) where
 mem := by simp
 obj := fun i h st b hb => by
  have e : b = it := by simpa using hb
  subst e
  exact ⟨_, st, fun v z => by
   have z' : Data.fields _ = Data.cell v := z
   cases z'⟩
 keep := fun i h h' st k => k it (by simp) _ st
 item := by
  intro X hP hw hK hc i pins s σ H E I hf st hg
  subst hP hw hK
  obtain ⟨f0, f1, f2, f3, f4, f5⟩ := hf it (by simp)
  have W := Walks.range (prog := X.prog) (w := X.w) (I.ok.hd hc) it lo 1 n
  refine W.item i s _ _ hg st fun v h' tk hv st' kk => ?_
  obtain ⟨t, rfl⟩ := hv
  have I1 : Inv X pins σ H { s with heap := h', toks := tk } := I.turned (fun b o hb e => kk b o (by simpa using hb) e) f0 f1 f3 f4 f5
  refine ⟨_, rfl, Lh (s := { s with heap := h', toks := tk }) (n := "range_iterator") st' rfl rfl (by decide) ⟨.int (lo + i), H, I1, ⟨t, ?_⟩, ⟨rfl, rfl⟩, st', fun b hb => (hf b hb).1⟩⟩
  rw [Int.mul_one]
 done := by
  intro X hP hw hK hc i pins s σ H E I hf st hg
  subst hP hw hK
  obtain ⟨f0, f1, f2, f3, f4, f5⟩ := hf it (by simp)
  exact wpAny_pyNext_range_end (I.ok.hd hc) st (by have : n ≤ i := hg; lia) fun h' eb => ⟨rfl, I.turned (t' := s.toks) (fun b o hb e => eb b o hb e) f0 f1 f3 f4 f5⟩
 self := fun _ _ _ _ _ st h => wpAny_pyIter_rangeiter st h
section
variable {X : Cx} {tg : Expr}
noncomputable def Dh (K : PySem.W.Frag) (tl : TE) : TI := fun σ H R => tl σ H fun x H1 => ∃ a, x = .ref a ∧ (∃ xs, SqL K H1 a xs) ∧ R (Itl K a) H1
noncomputable def O8 (K : PySem.W.Frag) (tl : TE) : TI := fun σ H R => tl σ H fun x H1 => ∃ a, x = .ref a ∧ (∃ xs, SqT K H1 a xs) ∧ R (Itt K a) H1
theorem CL {l : Expr} {tl : TE} (hl : PE X l tl) : PI X tg l (Dh X.K tl) := by
 intro pins s σ H R I h
 refine thn (hl pins s σ H _ I h) fun v s1 zq => ?_
 obtain ⟨x, H1, I1, r1, q1⟩ := zq
 obtain ⟨a, e, ⟨xs, hq⟩, q⟩ := q1
 subst e
 cases r1
 obtain ⟨its, rv, p, hz⟩ := I1.list hq
 refine wpAny_pyIter_list p.isList ?_
 refine ⟨s1.heap.objs.size, [s1.heap.objs.size], _, _, H1, rfl, I1.kept (t' := s1.toks) fun b o e => Heap.get?_push_of_some _ e, L7 a _, ⟨_, Heap.get?_push_size _ rfl, rfl, rfl⟩, fun b hb => ?_, q⟩
 have e : b = s1.heap.objs.size := by simpa using hb
 subst e
 exact I1.fpOk (Nat.le_refl _) (I1.hok.fresh (Nat.le_refl _))
theorem LK {l : Expr} {tl : TE} (hl : PE X l tl) : PI X tg l (O8 X.K tl) := by
 intro pins s σ H R I h
 refine thn (hl pins s σ H _ I h) fun v s1 zq => ?_
 obtain ⟨x, H1, I1, r1, q1⟩ := zq
 obtain ⟨a, e, ⟨xs, hq⟩, q⟩ := q1
 subst e
 cases r1
 obtain ⟨its, rv, p, hz⟩ := I1.tuple hq
 refine wpAny_pyIter_tuple (show s1.heap.IsTuple a its.toArray from p) ?_
 refine ⟨s1.heap.objs.size, [s1.heap.objs.size], _, _, H1, rfl, I1.kept (t' := s1.toks) fun b o e => Heap.get?_push_of_some _ e, LC a _, ⟨_, Heap.get?_push_size _ rfl, rfl, rfl⟩, fun b hb => ?_, q⟩
 have e : b = s1.heap.objs.size := by simpa using hb
 subst e
 exact I1.fpOk (Nat.le_refl _) (I1.hok.fresh (Nat.le_refl _))
theorem KG {pins : List (Addr × Obj)} {σ : St} {H : Hp} {s : Shared} {R : It → Hp → Prop} {E : Value → Shared → Prop} {lo hi : Int} {t u v : Tok} {tk : Nat} (I : Inv X pins σ H s) (h1 : -(2 ^ 62) ≤ lo) (h2 : lo < 2 ^ 62) (h3 : -(2 ^ 62) ≤ hi) (h4 : hi < 2 ^ 62)
  (q : R (Itr lo (hi - lo).toNat) H) : wpAny (model X.prog X.w) X.A (pyIter (.ref s.heap.objs.size)) (PIE X pins σ tg R) E { s with heap := s.heap.push { cls := .type "range", data := .fields #[.int lo t, .int hi u, .int 1 v] }, toks := tk } := by
 refine wpAny_pyIter_range (IsRange.new ..) (small_one h1 h2 h3 h4) ?_
 have I1 : Inv X pins σ H { s with heap := s.heap.push { cls := .type "range", data := .fields #[.int lo t, .int hi u, .int 1 v] }, toks := tk } := I.kept fun b o e => Heap.get?_push_of_some _ e
 refine ⟨(s.heap.push { cls := .type "range", data := .fields #[.int lo t, .int hi u, .int 1 v] }).objs.size, [(s.heap.push { cls := .type "range", data := .fields #[.int lo t, .int hi u, .int 1 v] }).objs.size], _, _, H, rfl,
  I1.kept (t' := tk) fun b o e => Heap.get?_push_of_some _ e, K7 _ lo (hi - lo).toNat, ?_, fun b hb => ?_, q⟩
 ·have e1 : lo + ((0 : Nat) : Int) * 1 = lo := by simp
  have e2 : (((hi - lo).toNat : Nat) : Int) - ((0 : Nat) : Int) = Builtin.Range.rangeSize lo hi 1 := by rw [rangeSize_one]; split <;> lia
  show IsRangeIter _ _ (lo + ((0 : Nat) : Int) * 1) ((((hi - lo).toNat : Nat) : Int) - ((0 : Nat) : Int)) 1
  rw [e1, e2]
  exact Heap.get?_push_size _ rfl
 ·have e : b = (s.heap.push { cls := .type "range", data := .fields #[.int lo t, .int hi u, .int 1 v] }).objs.size := by simpa using hb
  subst e
  exact I1.fpOk (Nat.le_refl _) (I1.hok.fresh (Nat.le_refl _))
noncomputable def EQ (ta : TA) : TI := fun σ H R => ta σ H fun vs H1 => ∃ j : Int, vs = [.int j] ∧ -(2 ^ 62) ≤ j ∧ j < 2 ^ 62 ∧ R (Itr 0 j.toNat) H1
noncomputable def EL (ta : TA) : TI := fun σ H R => ta σ H fun vs H1 => ∃ i j : Int, vs = [.int i, .int j] ∧ (-(2 ^ 62) ≤ i ∧ i < 2 ^ 62 ∧ -(2 ^ 62) ≤ j ∧ j < 2 ^ 62) ∧ R (Itr i (j - i).toNat) H1
theorem EC {a : Expr} {ta : TA} {p pos : Pos} (hg : Gl X "range") (hm : X.mg "range" = none) (ha : PA X [a] ta) (hs : starEach [a] X.env = [(false, eval a X.env)] := by rfl) : PI X tg (.Call (.Name "range" p) [a] [] pos) (EQ ta) := by
 intro pins s σ H R I h
 refine Call_ (G6 I hg hm boot_range (PyProof.Rows.callWith_type1 (thn (ha pos pins s σ H _ I h) fun us s1 ⟨vs, H1, I1, r1, q1⟩ => ?_) hs rfl))
 obtain ⟨j, e, q1, q2, q⟩ := q1
 subst e
 cases r1 with
 | cons r rr =>
  cases rr
  obtain ⟨t, rfl⟩ := r
  exact call_range_1 (KG I1 (by lia) (by lia) q1 q2 (by simpa using q))
theorem ML {a b : Expr} {ta : TA} {p pos : Pos} (hg : Gl X "range") (hm : X.mg "range" = none) (ha : PA X [a, b] ta) (hs : starEach [a, b] X.env = [(false, eval a X.env), (false, eval b X.env)] := by rfl) (hs2 : starEach [b] X.env = [(false, eval b X.env)] := by rfl) :
  PI X tg (.Call (.Name "range" p) [a, b] [] pos) (EL ta) := by
 intro pins s σ H R I h
 refine Call_ (G6 I hg hm boot_range (PyProof.Rows.callWith_type1 (thn (ha pos pins s σ H _ I h) fun us s1 ⟨vs, H1, I1, r1, q1⟩ => ?_) (by rw [hs, hs2]) (by rw [hs2]; rfl)))
 obtain ⟨i, j, e, ⟨q1, q2, q3, q4⟩, q⟩ := q1
 subst e
 cases r1 with
 | cons r rr =>
  cases rr with
  | cons r' rr =>
   cases rr
   obtain ⟨t, rfl⟩ := r
   obtain ⟨t', rfl⟩ := r'
   exact call_range_2 (KG I1 q1 q2 q3 q4 q)
noncomputable def tFor (wi : TI) (g : TG) (tb : TS) : TS := fun D σ H => wi σ H fun J H1 => ∃ W : Nat → Nat → St → Hp → Prop, (∃ m, W 0 m σ H1) ∧ ∀ i m σ H, W i m σ H →
 (J.stop i H ∧ D.nx σ H) ∨ (J.go i H ∧ ∃ N : St → Hp → Prop, (∀ σ' H', N σ' H' → ∃ m', m' < m ∧ W (i + 1) m' σ' H') ∧ ∀ x H', J.yld i H x H' → g x σ H' fun σ2 H2 => tb { D with nx := N, ct := N, bk := D.nx } σ2 H2)
noncomputable def Ep (fp : List Addr) (h : Heap) : List (Addr × Obj) := fp.filterMap fun b => (h.get? b).map fun o => (b, o)
theorem BZ {fp : List Addr} {h : Heap} {b : Addr} {o : Obj} (hb : b ∈ fp) (e : h.get? b = some o) : (b, o) ∈ Ep fp h := List.mem_filterMap.mpr ⟨b, hb, by rw [e]; rfl⟩
theorem MT {fp : List Addr} {h : Heap} {p : Addr × Obj} (hp : p ∈ Ep fp h) : p.1 ∈ fp ∧ h.get? p.1 = some p.2 := by
 obtain ⟨b, hb, e⟩ := List.mem_filterMap.mp hp
 cases q : h.get? b with
 | none => rw [q] at e; cases e
 | some o =>
  rw [q] at e
  have e' : (b, o) = p := Option.some.inj e
  subst e'
  exact ⟨hb, q⟩
theorem Inv.pinned {pins : List (Addr × Obj)} {σ : St} {H : Hp} {s : Shared} {fp : List Addr} (I : Inv X pins σ H s) (hf : ∀ b ∈ fp, Ez X pins H b) (ho : ∀ b ∈ fp, ∃ o, s.heap.get? b = some o ∧ ∀ v, o.data ≠ .cell v) : Inv X (pins ++ Ep fp s.heap) σ H s :=
 I.pins_of fun p hp => (List.mem_append.mp hp).elim (fun z => I.pin p (List.mem_append_right _ z)) fun z => by
  obtain ⟨hb, e⟩ := MT z
  obtain ⟨f0, f1, f2, _⟩ := hf p.1 hb
  obtain ⟨o, e', d⟩ := ho p.1 hb
  rw [e] at e'; cases e'
  exact ⟨e, f0, f1, f2, d⟩
theorem Inv.unpinned {pins pl : List (Addr × Obj)} {σ : St} {H : Hp} {s : Shared} (I : Inv X (pins ++ pl) σ H s) : Inv X pins σ H s := I.pins_of fun p hp => I.pin p (List.mem_append_right _ (List.mem_append_left _ hp))
theorem Ei {iter : Expr} {body : List Stmt} {wi : TI} {g : TG} {tb : TS} {pos : Pos} (hp : PassesOwn (model X.prog X.w) X.A X.env X.xe) (hc : X.calm = true) (hi : PI X tg iter wi) (hg : PG X tg g) (hb : PSs X body tb)
  (hs : ∀ x, foldedSetIterable iter X.env x = pure x := by intro _; rfl) : PS X (.For tg iter body [] pos) (tFor wi g tb) := by
 intro pins s σ H D I h
 refine wpAny_For (thn (hi pins s σ H _ I h) fun v s1 h1 => thn h1 fun itv s2 h2 => ?_) hs
 obtain ⟨it, fp, tn, J, H2, e, I2, T, st2, f2, W, ⟨m0, w0⟩, turn⟩ := h2
 subst e
 have stat : ∀ {H' : Hp}, (∀ b ∈ fp, H' b = none) → ∀ b ∈ fp, Ez X pins H' b := fun hn b hb => ⟨hn b hb, (f2 b hb).2⟩
 refine codeAny_forLoop_any (fun n s' => ∃ i σ' H', Inv X pins σ' H' s' ∧ tn i s'.heap ∧ (∀ b ∈ fp, H' b = none) ∧ W i n σ' H') ?_ m0 ⟨0, σ, H2, I2, st2, fun b hb => (f2 b hb).1, w0⟩
 rintro n s3 ⟨i, σ3, H3, I3, st3, fr3, w3⟩
 rcases turn i n σ3 H3 w3 with ⟨stop, qn⟩ | ⟨go, N, hN, step⟩
 ·refine wpAny_passesOwn hp (thn (T.done X rfl rfl rfl hc i pins s3 σ3 H3 X.xe I3 (stat fr3) st3 stop) fun r s4 zq => ?_)
  obtain ⟨hr, I4⟩ := zq
  subst hr
  exact wpAny_execs_nil ⟨σ3, H3, I4, qn⟩
 ·refine wpAny_passesOwn hp (thn (T.item X rfl rfl rfl hc i pins s3 σ3 H3 X.xe I3 (stat fr3) st3 go) fun r s4 zq => ?_)
  obtain ⟨u, hr, h4⟩ := zq
  subst hr
  refine wpAny_passesOwn hp (thn h4 fun _ s5 zq => ?_)
  obtain ⟨x, H5, I5, r5, y5, st5, fr5⟩ := zq
  have I5' := I5.pinned (stat fr5) (T.obj _ _ st5)
  refine wpAny_passesOwn hp (thn (hg _ s5 σ3 H5 x u _ I5' r5 (step x H5 y5)) fun _ s6 zq => ?_)
  obtain ⟨σ6, H6, I6, q6⟩ := zq
  refine wpAny_passesOwn hp (thn (hb _ s6 σ6 H6 _ I6 q6) fun f s7 q7 => ?_)
  have again : ∀ {σ7 : St} {H7 : Hp}, Inv X (pins ++ Ep fp s5.heap) σ7 H7 s7 → N σ7 H7 → ∃ m, m < n ∧ ∃ i σ' H', Inv X pins σ' H' s7 ∧ tn i s7.heap ∧ (∀ b ∈ fp, H' b = none) ∧ W i m σ' H' := fun {σ7 H7} I7 n7 => by
   obtain ⟨m', hm, w7⟩ := hN σ7 H7 n7
   refine ⟨m', hm, i + 1, σ7, H7, I7.unpinned, T.keep _ _ _ st5 fun b hb o e => (I7.pin (b, o) (List.mem_append_right _ (List.mem_append_right _ (BZ hb e)))).1, fun b hb => ?_, w7⟩
   obtain ⟨o, e, d⟩ := T.obj _ _ st5 b hb
   exact (I7.pin (b, o) (List.mem_append_right _ (List.mem_append_right _ (BZ hb e)))).2.1
  cases f with
  | next => obtain ⟨σ7, H7, I7, n7⟩ := q7; exact again I7 n7
  | cont => obtain ⟨σ7, H7, I7, n7⟩ := q7; exact again I7 n7
  | brk => obtain ⟨σ7, H7, I7, q7⟩ := q7; exact ⟨σ7, H7, I7.unpinned, q7⟩
  | ret v => obtain ⟨x7, σ7, H7, I7, r7, q7⟩ := q7; exact ⟨x7, σ7, H7, I7.unpinned, r7, q7⟩
end
theorem Nt {K : PySem.W.Frag} {a : Addr} {xs : List V} {g : TG} {tb : TS} {D : En} {σ : St} {H : Hp} (Pv : Nat → St → Hp → Prop) (h0 : Pv 0 σ H) (hl : ∀ i σ H, i ≤ xs.length → Pv i σ H → SqL K H a xs)
  (hs : ∀ i x σ H, xs[i]? = some x → Pv i σ H → g x σ H fun σ2 H2 => tb { D with nx := Pv (i + 1), ct := Pv (i + 1), bk := D.nx } σ2 H2) (hd : ∀ σ H, Pv xs.length σ H → D.nx σ H) :
  ∃ W : Nat → Nat → St → Hp → Prop, (∃ m, W 0 m σ H) ∧ ∀ i m σ H, W i m σ H →
   ((Itl K a).stop i H ∧ D.nx σ H) ∨ ((Itl K a).go i H ∧ ∃ N : St → Hp → Prop, (∀ σ' H', N σ' H' → ∃ m', m' < m ∧ W (i + 1) m' σ' H') ∧ ∀ x H', (Itl K a).yld i H x H' → g x σ H' fun σ2 H2 => tb { D with nx := N, ct := N, bk := D.nx } σ2 H2) := by
 refine ⟨fun i m σ H => m = xs.length - i ∧ i ≤ xs.length ∧ Pv i σ H, ⟨xs.length, by simp, Nat.zero_le _, h0⟩, ?_⟩
 rintro i m σ H ⟨rfl, hi, p⟩
 have q := hl i σ H hi p
 by_cases hlt : i < xs.length
 ·refine .inr ⟨⟨xs, xs[i], q, by simp [hlt]⟩, Pv (i + 1), fun σ' H' p' => ⟨xs.length - (i + 1), by lia, rfl, hlt, p'⟩, fun x H' y => ?_⟩
  obtain ⟨e, y⟩ := y
  subst e
  exact hs i x σ _ (y xs q) p
 ·have e : i = xs.length := by lia
  subst e
  exact .inl ⟨⟨xs, q, Nat.le_refl _⟩, hd σ H p⟩
theorem O4 {K : PySem.W.Frag} {a : Addr} {xs : List V} {g : TG} {tb : TS} {D : En} {σ : St} {H : Hp} (Pv : Nat → St → Hp → Prop) (h0 : Pv 0 σ H) (hl : ∀ i σ H, i ≤ xs.length → Pv i σ H → SqT K H a xs)
  (hs : ∀ i x σ H, xs[i]? = some x → Pv i σ H → g x σ H fun σ2 H2 => tb { D with nx := Pv (i + 1), ct := Pv (i + 1), bk := D.nx } σ2 H2) (hd : ∀ σ H, Pv xs.length σ H → D.nx σ H) :
  ∃ W : Nat → Nat → St → Hp → Prop, (∃ m, W 0 m σ H) ∧ ∀ i m σ H, W i m σ H →
   ((Itt K a).stop i H ∧ D.nx σ H) ∨ ((Itt K a).go i H ∧ ∃ N : St → Hp → Prop, (∀ σ' H', N σ' H' → ∃ m', m' < m ∧ W (i + 1) m' σ' H') ∧ ∀ x H', (Itt K a).yld i H x H' → g x σ H' fun σ2 H2 => tb { D with nx := N, ct := N, bk := D.nx } σ2 H2) := by
 refine ⟨fun i m σ H => m = xs.length - i ∧ i ≤ xs.length ∧ Pv i σ H, ⟨xs.length, by simp, Nat.zero_le _, h0⟩, ?_⟩
 rintro i m σ H ⟨rfl, hi, p⟩
 have q := hl i σ H hi p
 by_cases hlt : i < xs.length
 ·refine .inr ⟨⟨xs, xs[i], q, by simp [hlt]⟩, Pv (i + 1), fun σ' H' p' => ⟨xs.length - (i + 1), by lia, rfl, hlt, p'⟩, fun x H' y => ?_⟩
  obtain ⟨e, y⟩ := y
  subst e
  exact hs i x σ _ (y xs q) p
 ·have e : i = xs.length := by lia
  subst e
  exact .inl ⟨⟨xs, q, Nat.le_refl _⟩, hd σ H p⟩
theorem C1 {lo : Int} {n : Nat} {g : TG} {tb : TS} {D : En} {σ : St} {H : Hp} (Pv : Nat → St → Hp → Prop) (h0 : Pv 0 σ H)
  (hs : ∀ i σ H, i < n → Pv i σ H → g (.int (lo + i)) σ H fun σ2 H2 => tb { D with nx := Pv (i + 1), ct := Pv (i + 1), bk := D.nx } σ2 H2) (hd : ∀ σ H, Pv n σ H → D.nx σ H) :
  ∃ W : Nat → Nat → St → Hp → Prop, (∃ m, W 0 m σ H) ∧ ∀ i m σ H, W i m σ H →
   ((Itr lo n).stop i H ∧ D.nx σ H) ∨ ((Itr lo n).go i H ∧ ∃ N : St → Hp → Prop, (∀ σ' H', N σ' H' → ∃ m', m' < m ∧ W (i + 1) m' σ' H') ∧ ∀ x H', (Itr lo n).yld i H x H' → g x σ H' fun σ2 H2 => tb { D with nx := N, ct := N, bk := D.nx } σ2 H2) := by
 refine ⟨fun i m σ H => m = n - i ∧ i ≤ n ∧ Pv i σ H, ⟨n, by simp, Nat.zero_le _, h0⟩, ?_⟩
 rintro i m σ H ⟨rfl, hi, p⟩
 by_cases hlt : i < n
 ·refine .inr ⟨hlt, Pv (i + 1), fun σ' H' p' => ⟨n - (i + 1), by lia, rfl, hlt, p'⟩, fun x H' y => ?_⟩
  obtain ⟨e, y⟩ := y
  subst e y
  exact hs i σ _ hlt p
 ·have e : i = n := by lia
  subst e
  exact .inl ⟨Nat.le_refl _, hd σ H p⟩
noncomputable abbrev R2 := V → V → Hp → VK → Prop
noncomputable def OpR (X : Cx) (f : Value → Value → Sem Value) (r : R2) : Prop :=
 ∀ (pins : List (Addr × Obj)) (s : Shared) (σ : St) (H : Hp) (x y : V) (v u : Value) (Q : VK), Inv X pins σ H s → RelV x v → RelV y u → r x y H Q →
  wpAny (model X.prog X.w) X.A (f v u) (EP X pins σ Q) X.xe s
noncomputable def UnR (X : Cx) (f : Value → Sem Value) (r : V → Hp → VK → Prop) : Prop :=
 ∀ (pins : List (Addr × Obj)) (s : Shared) (σ : St) (H : Hp) (x : V) (v : Value) (Q : VK), Inv X pins σ H s → RelV x v → r x H Q →
  wpAny (model X.prog X.w) X.A (f v) (EP X pins σ Q) X.xe s
noncomputable def BJ (X : Cx) (f : Value) (r : List V → Hp → VK → Prop) : Prop :=
 ∀ (pins : List (Addr × Obj)) (s : Shared) (σ : St) (H : Hp) (xs : List V) (us : List Value) (Q : VK), Inv X pins σ H s → AX xs us → r xs H Q →
  wpAny (model X.prog X.w) X.A (call f us) (EP X pins σ Q) X.xe s
noncomputable def tOp (r : R2) (ta tb : TE) : TE := fun σ H Q => ta σ H fun x H1 => tb σ H1 fun y H2 => r x y H2 Q
noncomputable def tUn (r : V → Hp → VK → Prop) (ta : TE) : TE := fun σ H Q => ta σ H fun x H1 => r x H1 Q
noncomputable def rI (C : Int → Int → Prop) (g : Int → Int → V) : R2 := fun x y H Q => ∃ i j, x = .int i ∧ y = .int j ∧ C i j ∧ Q (g i j) H
noncomputable def rI0 (g : Int → Int → V) : R2 := fun x y H Q => ∃ i j, x = .int i ∧ y = .int j ∧ Q (g i j) H
noncomputable def rU (g : Int → V) : V → Hp → VK → Prop := fun x H Q => ∃ i, x = .int i ∧ Q (g i) H
section
variable {X : Cx} {a b c : Expr} {ta tb tc : TE} {pos : Pos}
theorem UH (ha : PE X a ta) (hb : PE X b tb) {pins : List (Addr × Obj)} {s : Shared} {σ : St} {H : Hp} {R : V → V → Hp → Prop} (I : Inv X pins σ H s)
  (h : ta σ H fun x H1 => tb σ H1 fun y H2 => R x y H2) {Q : Value → Shared → Prop} {f : Value → Value → Sem Value}
  (hf : ∀ v u s2 x y H2, Inv X pins σ H2 s2 → RelV x v → RelV y u → R x y H2 → wpAny (model X.prog X.w) X.A (f v u) Q X.xe s2) :
  wpAny (model X.prog X.w) X.A (eval a X.env) (fun v s₁ => wpAny (model X.prog X.w) X.A (eval b X.env) (fun u s₂ => wpAny (model X.prog X.w) X.A (f v u) Q X.xe s₂) X.xe s₁) X.xe s := by
 refine thn (ha pins s σ H _ I h) fun v s1 zq => ?_
 obtain ⟨x, H1, I1, r1, q1⟩ := zq
 refine thn (hb pins s1 σ H1 _ I1 q1) fun u s2 zq => ?_
 obtain ⟨y, H2, I2, r2, q2⟩ := zq
 exact hf v u s2 x y H2 I2 r1 r2 q2
theorem AL {op : Operator} {r : R2} (ho : OpR X (binaryOp op) r) (ha : PE X a ta) (hb : PE X b tb) : PE X (.BinOp a op b pos) (tOp r ta tb) := by
 intro pins s σ H Q I h
 exact wpAny_BinOp (UH ha hb I h fun v u s2 x y H2 I2 rx ry q => ho pins s2 σ H2 x y v u Q I2 rx ry q)
theorem Fy {op : UnaryOp} {r : V → Hp → VK → Prop} (ho : UnR X (unaryOp op) r) (ha : PE X a ta) : PE X (.UnaryOp op a pos) (tUn r ta) := by
 intro pins s σ H Q I h
 exact UnaryOp_ (thn (ha pins s σ H _ I h) fun v s1 ⟨x, H1, I1, r1, q1⟩ => ho pins s1 σ H1 x v Q I1 r1 q1)
theorem opI {f : Value → Value → Sem Value} {C : Int → Int → Prop} {g : Int → Int → Int}
  (rule : ∀ (i j : Int) (t u : Tok) (s : Shared) (Q : Value → Shared → Prop) (E : Value → Shared → Prop), C i j → Q (.int (g i j) s.toks) { s with toks := s.toks + 1 } → wpAny (model X.prog X.w) X.A (f (.int i t) (.int j u)) Q E s) :
  OpR X f (rI C fun i j => .int (g i j)) := by
 intro pins s σ H x y v u Q I rx ry h
 obtain ⟨i, j, rfl, rfl, hc, q⟩ := h
 obtain ⟨t, rfl⟩ := rx
 obtain ⟨t', rfl⟩ := ry
 exact rule i j t t' s _ _ hc ⟨.int (g i j), H, I.tok _, ⟨_, rfl⟩, q⟩
theorem opI0 {f : Value → Value → Sem Value} {g : Int → Int → Int}
  (rule : ∀ (i j : Int) (t u : Tok) (s : Shared) (Q : Value → Shared → Prop) (E : Value → Shared → Prop), Q (.int (g i j) s.toks) { s with toks := s.toks + 1 } → wpAny (model X.prog X.w) X.A (f (.int i t) (.int j u)) Q E s) :
  OpR X f (rI0 fun i j => .int (g i j)) := by
 intro pins s σ H x y v u Q I rx ry h
 obtain ⟨i, j, rfl, rfl, q⟩ := h
 obtain ⟨t, rfl⟩ := rx
 obtain ⟨t', rfl⟩ := ry
 exact rule i j t t' s _ _ ⟨.int (g i j), H, I.tok _, ⟨_, rfl⟩, q⟩
theorem TJ {f : Value → Value → Sem Value} {g : Int → Int → Bool}
  (rule : ∀ (i j : Int) (t u : Tok) (s : Shared) (Q : Value → Shared → Prop) (E : Value → Shared → Prop), Q (.bool (g i j)) s → wpAny (model X.prog X.w) X.A (f (.int i t) (.int j u)) Q E s) :
  OpR X f (rI0 fun i j => .bl (g i j)) := by
 intro pins s σ H x y v u Q I rx ry h
 obtain ⟨i, j, rfl, rfl, q⟩ := h
 obtain ⟨t, rfl⟩ := rx
 obtain ⟨t', rfl⟩ := ry
 exact rule i j t t' s _ _ ⟨.bl (g i j), H, I, rfl, q⟩
noncomputable def Kq (i j : Int) : Prop := 0 < j ∧ j < 1073741824
noncomputable def LA (i j : Int) : Prop := 0 ≤ j ∧ j ≤ 1000000 ∧ i.natAbs < 2 ^ 64
noncomputable def Iz (i j : Int) : Prop := (-(2 ^ 64) < i ∧ i < 2 ^ 64) ∨ (-(2 ^ 64) < j ∧ j < 2 ^ 64)
theorem Iz.ok {i j : Int} (h : Iz i j) : IntMulOk i j := by
 rcases h with ⟨h1, h2⟩ | ⟨h1, h2⟩
 ·exact .of_left (intBits_le_64 h1 h2)
 ·exact .of_right (intBits_le_64 h1 h2)
theorem Bh : OpR X (binaryOp .Add) (rI0 fun i j => .int (i + j)) := opI0 fun _ _ _ _ _ _ _ q => add_int q
theorem BI : OpR X (binaryOp .Sub) (rI0 fun i j => .int (i - j)) := opI0 fun _ _ _ _ _ _ _ q => sub_int q
theorem JC : OpR X (binaryOp .Mult) (rI Iz fun i j => .int (i * j)) := opI fun _ _ _ _ _ _ _ hc q => mul_int q hc.ok
theorem EE : OpR X (binaryOp .FloorDiv) (rI Kq fun i j => .int (i / j)) := opI fun i j _ _ _ _ _ hc q => by
 have h1 : (0 : Int) < j := hc.1
 have h2 : j < 1073741824 := hc.2
 exact floordiv_int (by lia) (by rw [Int.fdiv_eq_ediv_of_nonneg i (by lia)]; exact q) (.inl (PyProof.noPylong_small (by lia)))
theorem Ad : OpR X (binaryOp .Mod) (rI (fun _ j => 0 < j) fun i j => .int (i % j)) := opI fun i j _ _ _ _ _ hc q => by
 have h1 : (0 : Int) < j := hc
 exact mod_int' (by lia) (by rw [Int.fmod_eq_emod_of_nonneg i (by lia)]; exact q)
theorem K3 : OpR X (binaryOp .Pow) (rI LA fun i j => .int (i ^ j.toNat)) := opI fun _ _ _ _ _ _ _ hc q => pow_int_small hc.1 hc.2.1 hc.2.2 q
theorem unI {f : Value → Sem Value} {g : Int → Int}
  (rule : ∀ (i : Int) (t : Tok) (s : Shared) (Q : Value → Shared → Prop) (E : Value → Shared → Prop), Q (.int (g i) s.toks) { s with toks := s.toks + 1 } → wpAny (model X.prog X.w) X.A (f (.int i t)) Q E s) :
  UnR X f (rU fun i => .int (g i)) := by
 intro pins s σ H x v Q I rx h
 obtain ⟨i, rfl, q⟩ := h
 obtain ⟨t, rfl⟩ := rx
 exact rule i t s _ _ ⟨.int (g i), H, I.tok _, ⟨_, rfl⟩, q⟩
theorem Dv : UnR X (unaryOp .USub) (rU fun i => .int (-i)) := unI fun _ _ _ _ _ q => neg_int q
end
noncomputable def knd : V → Nat
 | .non => 0 | .int _ => 1 | .bl _ => 2 | .str _ => 3 | .byt _ => 4 | _ => 5
noncomputable def EF (x y : V) : Bool := (knd x == knd y && Nat.blt (knd x) 5) || (Nat.blt (knd x) 4 && Nat.blt (knd y) 4 && knd x * knd y != 2)
noncomputable def rEq : R2 := fun x y H Q => EF x y = true ∧ Q (.bl (decide (x = y))) H
noncomputable def rNe : R2 := fun x y H Q => EF x y = true ∧ Q (.bl (!decide (x = y))) H
theorem Lr {i j : Int} : decide (V.int i = V.int j) = (i == j) := by
 rw [Bool.eq_iff_iff]
 simp
theorem Nk {i j : Bool} : decide (V.bl i = V.bl j) = (i == j) := by
 rw [Bool.eq_iff_iff]
 simp
theorem La {i j : Str} : decide (V.str i = V.str j) = (i == j) := by
 rw [Bool.eq_iff_iff]
 simp
theorem Lx {i j : Array UInt8} : decide (V.byt i = V.byt j) = (i.toList == j.toList) := by
 rw [Bool.eq_iff_iff]
 cases i
 cases j
 simp
section
variable {X : Cx} {a b c : Expr} {ta tb tc : TE} {pos : Pos}
theorem Ah {pins : List (Addr × Obj)} {σ : St} {H : Hp} {s : Shared} {Q : VK} {k k' : Bool} (I : Inv X pins σ H s) (q : Q (.bl k) H) (e : k = k') : EP X pins σ Q (.bool k') s := by
 subst e
 exact ⟨.bl k, H, I, rfl, q⟩
theorem BR : OpR X (compareOp .Eq) rEq := by
 intro pins s σ H x y v u Q I rx ry h
 obtain ⟨hs, q⟩ := h
 cases x with
 | non =>
  cases rx
  cases y with
  | non => cases ry; exact PySem.EqNone.eq_none_none (Ah I q (by simp))
  | bl j => cases ry; exact PySem.EqNone.eq_none_bool (Ah I q (by simp))
  | int j => obtain ⟨t', rfl⟩ := ry; exact PySem.EqNone.eq_none_int (Ah I q (by simp))
  | str j => obtain ⟨t', rfl⟩ := ry; exact PySem.EqNone.eq_none_str (Ah I q (by simp))
  | _ => exact absurd (show false = true from hs) Bool.false_ne_true
 | bl i =>
  cases rx
  cases y with
  | non => cases ry; exact PySem.EqNone.eq_bool_none (Ah I q (by simp))
  | bl j => cases ry; exact eq_bool (Ah I q Nk)
  | str j => obtain ⟨t', rfl⟩ := ry; exact PySem.EqMixed.eq_bool_str (Ah I q (by simp))
  | _ => exact absurd (show false = true from hs) Bool.false_ne_true
 | int i =>
  obtain ⟨t, rfl⟩ := rx
  cases y with
  | non => cases ry; exact PySem.EqNone.eq_int_none (Ah I q (by simp))
  | int j => obtain ⟨t', rfl⟩ := ry; exact eq_int (Ah I q Lr)
  | str j => obtain ⟨t', rfl⟩ := ry; exact PySem.EqMixed.eq_int_str (Ah I q (by simp))
  | _ => exact absurd (show false = true from hs) Bool.false_ne_true
 | str i =>
  obtain ⟨t, rfl⟩ := rx
  cases y with
  | non => cases ry; exact PySem.EqNone.eq_str_none (Ah I q (by simp))
  | bl j => cases ry; exact PySem.EqMixed.eq_str_bool (Ah I q (by simp))
  | int j => obtain ⟨t', rfl⟩ := ry; exact PySem.EqMixed.eq_str_int (Ah I q (by simp))
  | str j => obtain ⟨t', rfl⟩ := ry; exact eq_str (Ah I q La)
  | _ => exact absurd (show false = true from hs) Bool.false_ne_true
 | byt i =>
  obtain ⟨t, rfl⟩ := rx
  cases y with
  | byt j => obtain ⟨t', rfl⟩ := ry; exact PySem.W.eq_bytes (Ah I q Lx)
  | _ => exact absurd (show false = true from hs) Bool.false_ne_true
 | _ => cases y <;> exact absurd (show false = true from hs) Bool.false_ne_true
theorem FG : OpR X (compareOp .NotEq) rNe := by
 intro pins s σ H x y v u Q I rx ry h
 obtain ⟨hs, q⟩ := h
 cases x with
 | non =>
  cases rx
  cases y with
  | non => cases ry; exact PySem.EqNone.ne_none_none (Ah I q (by simp))
  | bl j => cases ry; exact PySem.EqNone.ne_none_bool (Ah I q (by simp))
  | int j => obtain ⟨t', rfl⟩ := ry; exact PySem.EqNone.ne_none_int (Ah I q (by simp))
  | str j => obtain ⟨t', rfl⟩ := ry; exact PySem.EqNone.ne_none_str (Ah I q (by simp))
  | _ => exact absurd (show false = true from hs) Bool.false_ne_true
 | bl i =>
  cases rx
  cases y with
  | non => cases ry; exact PySem.EqNone.ne_bool_none (Ah I q (by simp))
  | bl j => cases ry; exact ne_bool (Ah I q (congrArg not Nk))
  | str j => obtain ⟨t', rfl⟩ := ry; exact PySem.EqMixed.ne_bool_str (Ah I q (by simp))
  | _ => exact absurd (show false = true from hs) Bool.false_ne_true
 | int i =>
  obtain ⟨t, rfl⟩ := rx
  cases y with
  | non => cases ry; exact PySem.EqNone.ne_int_none (Ah I q (by simp))
  | int j => obtain ⟨t', rfl⟩ := ry; exact ne_int (Ah I q (congrArg not Lr))
  | str j => obtain ⟨t', rfl⟩ := ry; exact PySem.EqMixed.ne_int_str (Ah I q (by simp))
  | _ => exact absurd (show false = true from hs) Bool.false_ne_true
 | str i =>
  obtain ⟨t, rfl⟩ := rx
  cases y with
  | non => cases ry; exact PySem.EqNone.ne_str_none (Ah I q (by simp))
  | bl j => cases ry; exact PySem.EqMixed.ne_str_bool (Ah I q (by simp))
  | int j => obtain ⟨t', rfl⟩ := ry; exact PySem.EqMixed.ne_str_int (Ah I q (by simp))
  | str j => obtain ⟨t', rfl⟩ := ry; exact ne_str (Ah I q (congrArg not La))
  | _ => exact absurd (show false = true from hs) Bool.false_ne_true
 | byt i =>
  obtain ⟨t, rfl⟩ := rx
  cases y with
  | byt j => obtain ⟨t', rfl⟩ := ry; exact PySem.W.ne_bytes (Ah I q (congrArg not Lx))
  | _ => exact absurd (show false = true from hs) Bool.false_ne_true
 | _ => cases y <;> exact absurd (show false = true from hs) Bool.false_ne_true
theorem KW : OpR X (compareOp .Lt) (rI0 fun i j => .bl (decide (i < j))) := TJ fun _ _ _ _ _ _ _ q => lt_int q
theorem ER : OpR X (compareOp .Gt) (rI0 fun i j => .bl (decide (j < i))) := TJ fun _ _ _ _ _ _ _ q => gt_int q
theorem Lv : OpR X (compareOp .GtE) (rI0 fun i j => .bl (decide (j ≤ i))) := TJ fun _ _ _ _ _ _ _ q => ge_int q
theorem MQ : OpR X (compareOp .In) (fun x y H Q => ∃ i j, x = .str i ∧ y = .str j ∧ Q (.bl (!(Builtin.Str.occurrences j i 0 j.length 1).isEmpty)) H) := by
 intro pins s σ H x y v u Q I rx ry h
 obtain ⟨i, j, rfl, rfl, q⟩ := h
 obtain ⟨t, rfl⟩ := rx
 obtain ⟨t', rfl⟩ := ry
 exact in_str (Ah I q rfl)
theorem Sn : OpR X (compareOp .Is) (fun x y H Q => y = .non ∧ Q (.bl (decide (x = .non))) H) := by
 intro pins s σ H x y v u Q I rx ry h
 obtain ⟨rfl, q⟩ := h
 cases ry
 refine is_none_gen (Ah I q ?_)
 cases x <;> first
  | (cases rx; rfl)
  | (obtain ⟨t, rfl⟩ := rx; rfl)
theorem NB (b : Expr) {op : CmpOp} (h : op ≠ .In := by decide) (h2 : op ≠ .NotIn := by decide) : behindInMarks op b = false := by
 have e1 : (op == CmpOp.In) = false := by cases op <;> first | rfl | exact absurd rfl h
 have e2 : (op == CmpOp.NotIn) = false := by cases op <;> first | rfl | exact absurd rfl h2
 cases b <;> simp [behindInMarks, e1, e2]
theorem JW {op : CmpOp} {r : R2} (ho : OpR X (compareOp op) r) (ha : PE X a ta) (hb : PE X b tb) (hm : behindInMarks op b = false) : PE X (.Compare a [op] [b] pos) (tOp r ta tb) := by
 intro pins s σ H Q I h
 exact wpAny_Compare1 (UH ha hb I h fun v u s2 x y H2 I2 rx ry q => ho pins s2 σ H2 x y v u Q I2 rx ry q) hm
noncomputable def D0 (t : TE) : TT := fun σ H Q => t σ H fun x H' => ∃ k, x = .bl k ∧ Q k H'
theorem Jn {op : CmpOp} {r : R2} (ho : OpR X (compareOp op) r) (ha : PE X a ta) (hb : PE X b tb) (hm : behindInMarks op b = false) : PT X (.Compare a [op] [b] pos) (D0 (tOp r ta tb)) := by
 intro pins s σ H Q I h
 refine wpAny_isTrue_Compare1 (thn (ha pins s σ H _ I h) fun v s1 ⟨x, H1, I1, r1, q1⟩ => thn (hb pins s1 σ H1 _ I1 q1) fun u s2 ⟨y, H2, I2, r2, q2⟩ =>
  thn (ho pins s2 σ H2 x y v u _ I2 r1 r2 q2) fun c s3 ⟨z, H3, I3, r3, k, e, q3⟩ => ?_) hm
 subst e
 cases r3
 exact wpAny_truthy_bool ⟨H3, I3, q3⟩
theorem Jq : (sizeLine : Nat) < 2 ^ 63 := by rw [sizeLine_eq]; decide
theorem AV : OpR X (binaryOp .Add) (fun x y H Q => ∃ i j, x = .str i ∧ y = .str j ∧ i.length + j.length ≤ sizeLine ∧ Q (.str (i ++ j)) H) := by
 intro pins s σ H x y v u Q I rx ry h
 obtain ⟨i, j, rfl, rfl, hz, q⟩ := h
 obtain ⟨t, rfl⟩ := rx
 obtain ⟨t', rfl⟩ := ry
 exact add_str (fun t' tk => ⟨.str (i ++ j), H, I.tok _, ⟨_, rfl⟩, q⟩) hz
theorem vals1 {x : V} {us : List Value} (r : AX [x] us) : ∃ u, us = [u] ∧ RelV x u := by
 cases r with
 | cons r1 r2 => cases r2; exact ⟨_, rfl, r1⟩
theorem vals2 {x y : V} {us : List Value} (r : AX [x, y] us) : ∃ u w', us = [u, w'] ∧ RelV x u ∧ RelV y w' := by
 cases r with
 | cons r1 r2 =>
  cases r2 with
  | cons r3 r4 => cases r4; exact ⟨_, _, rfl, r1, r3⟩
theorem E8 : BJ X (.builtin "abs") (fun xs H Q => ∃ i, xs = [.int i] ∧ Q (.int (if i < 0 then -i else i)) H) := by
 intro pins s σ H xs us Q I r h
 obtain ⟨i, rfl, q⟩ := h
 obtain ⟨u, rfl, t, rfl⟩ := vals1 r
 exact call_abs_int fun u tk => ⟨.int (if i < 0 then -i else i), H, I.tok _, ⟨_, rfl⟩, q⟩
theorem L1 : BJ X (.type "int") (fun xs H Q => (∃ i, xs = [.int i] ∧ Q (.int i) H) ∨ ∃ k, xs = [.bl k] ∧ Q (.int (if k then 1 else 0)) H) := by
 intro pins s σ H xs us Q I r h
 rcases h with ⟨i, rfl, q⟩ | ⟨k, rfl, q⟩
 ·obtain ⟨u, rfl, t, rfl⟩ := vals1 r
  exact call_int_int ⟨.int i, H, I, ⟨_, rfl⟩, q⟩
 ·obtain ⟨u, rfl, r1⟩ := vals1 r
  cases r1
  exact call_int_bool ⟨.int (if k then 1 else 0), H, I.tok _, ⟨_, rfl⟩, q⟩
theorem Ae : BJ X (.type "str") (fun xs H Q => ∃ i, xs = [.int i] ∧ i.natAbs.log2 < 1920 ∧ Q (.str (toString i)) H) := by
 intro pins s σ H xs us Q I r h
 obtain ⟨i, rfl, hz, q⟩ := h
 obtain ⟨u, rfl, t, rfl⟩ := vals1 r
 exact PySem.P.str_of_int hz ⟨.str _, H, I.tok _, ⟨_, rfl⟩, q⟩
end
structure LS (h : Heap) (x dx C : Addr) (mA : Str → Option Value) : Prop where
 obj : h.get? x = some (PySem.W.instObj C dx)
 ns : h.Ns1 dx mA
 ne : dx ≠ x
theorem ME {h : Heap} {dx : Addr} {mA : Str → Option Value} (n : h.Ns1 dx mA) : ∃ od, h.get? dx = some od ∧ ∀ name, PySem.W.lookIn name od = some (mA name) := by
 obtain ⟨o, es, ep, ho, hd, hk, _, hm⟩ := n
 refine ⟨o, ho, fun name => ?_⟩
 have e := hm name
 unfold nsFind findBy at e
 rw [← Array.find?_toList] at e
 unfold PySem.W.lookIn
 rw [hd]
 dsimp only
 split
 ·rename_i y q
  rw [q] at e
  exact congrArg some e
 ·rename_i q
  rw [q] at e
  have a : es.toList.any (·.refKey) = false := by
   rw [List.any_eq_false]
   intro y hy
   obtain ⟨z, t, hkey⟩ := hk y (Array.mem_toList_iff.mp hy)
   simp [DictEntry.refKey, hkey]
  have a' : ¬ es.toList.any (·.refKey) = true := by rw [a]; exact Bool.false_ne_true
  rw [if_neg a']
  exact congrArg some e
theorem LS.look {h : Heap} {x dx C : Addr} {mA : Str → Option Value} (I : LS h x dx C mA) : ∃ od, PySem.W.InstAt h x (PySem.W.instObj C dx) C (some od) ∧ ∀ name, PySem.W.lookIn name od = some (mA name) :=
 let ⟨od, ho, hl⟩ := ME I.ns
 ⟨od, ⟨I.obj, rfl, rfl, ho⟩, hl⟩
section
variable {prog : Program} {w : World} {A : Around} {E : Value → Shared → Prop} {s : Shared} {K : PySem.W.Frag} {x dx C f : Addr} {mA : Str → Option Value} {name : Str} {v : Value}
theorem OE {expr : Bool} {Q : Value → Shared → Prop} (X : K.In s.heap) (I : LS s.heap x dx C mA) (hg : PySem.W.plainGet K C name = true) (hh : PySem.W.hasDictIn K C = true)
  (ha : PySem.W.findIn K (.ref C) name = some none) (hv : mA name = some v) (hv' : PySem.W.handedIn v = true) (h : Q v { s with toks := s.toks + 1 }) :
  wpAny (model prog w) A (getAttr (.ref x) name expr) Q E s := by
 obtain ⟨od, J, hl⟩ := I.look
 exact PySem.W.get_value X J (PySem.W.plainGet_of hg).1 (PySem.W.findObj_own hh ha rfl (by rw [hl, hv])) hv' h
theorem Mw {pl : Sem Bool} {Q : Value × List Value → Shared → Prop} (X : K.In s.heap) (I : LS s.heap x dx C mA) (hg : PySem.W.plainGet K C name = true)
  (hf : PySem.W.findIn K (.ref C) name = some (some (.ref f))) (ht : PySem.W.isFn K (.ref f) = true) (hv : mA name = none) (h : Q (.ref f, [.ref x]) s) :
  wpAny (model prog w) A (getMethod (.ref x) name pl) Q E s := by
 obtain ⟨od, J, hl⟩ := I.look
 exact PySem.W.method_fn X J (PySem.W.plainGet_of hg).1 (PySem.W.plainGet_of hg).2 hf (beq_iff_eq.mp ht) (by show (PySem.W.lookIn name od).map (·.isSome) = some false; rw [hl, hv]; rfl) h
theorem OD {ns : List Str} {Q : Unit → Shared → Prop} (X : K.In s.heap) (I : LS s.heap x dx C mA)
  (hs : PySem.W.findIn K (.ref C) "__setattr__" = some (some (.builtin "object.__setattr__"))) (hp : PySem.W.plainOver K C = true) (ht : PySem.W.takerIn K C name = some none) (hh : PySem.W.hasDictIn K C = true)
  (hw : PySem.Within mA ns) (hsz : ns.length ≤ sizeLine)
  (h : ∀ h', LS h' x dx C (fun y => if y = name then some v else mA y) → Heap.SameBut dx s.heap h' → Q () { s with heap := h', toks := s.toks + 2 }) :
  wpAny (model prog w) A (setAttr (.ref x) name v) Q E s := by
 obtain ⟨od, J, hl⟩ := I.look
 refine PySem.W.set_plain X J hs (PySem.W.osa_open (s := { s with toks := s.toks + 1 }) (r := none) X J hp ht fun b => ?_)
 obtain ⟨cd, hc, hd'⟩ := PySem.W.any_some hh
 have hx : s.heap.get? x = some ⟨.ref C, some dx, .plain, #[]⟩ := I.obj
 refine wpAny_bind (wpAny_pure (wpAny_bind (wpAny_bind (wpAny_loadPart hx (wpAny_bind (PySem.W.Looks.here (s := { s with toks := s.toks + 1 }) (PySem.W.looks_clsIn X hc) ?_))))))
 rw [hd']
 refine wpAny_pure (a := some dx) (wpAny_bind (wpAny_pure (wpAny_bind ?_)))
 refine wpAny_nsSet1 (s := { s with toks := s.toks + 1 }) I.ns fun h' hn2 hs2 => ?_
 obtain ⟨oD, esD, epD, hoD, hdD, hcD⟩ := hn2.count (PySem.Within.cons name v hw)
 refine wpAny_bind (wpAny_lookBehind hoD (by rw [hdD]; exact pastItsLine_dict (Nat.le_trans hcD (by rw [List.length_cons]; lia))) ?_)
 exact wpAny_pure (h _ ⟨(hs2.2 _ (Ne.symm I.ne)).trans I.obj, hn2, I.ne⟩ hs2)
theorem Nw {R : Result → Shared → Prop} {vs : List Value} {kw : List (Str × Value)} (X : K.In s.heap) (hm : PySem.W.makesIn K C = true)
  (hi : PySem.W.findIn K (.ref C) "__init__" = some (some (.ref f))) (hf : PySem.W.typeIn K (.ref f) = some (.type "function"))
  (h : codeAny (model prog w) (A.under (.builtin "type.__call__" ⟨.ref C :: vs, kw⟩)) (.call (.ref f) ⟨.ref (s.heap.objs.size + 1) :: vs, kw⟩) (PySem.W.InitBack (s.heap.objs.size + 1) R)
   { s with heap := (s.heap.push PySem.W.emptyDict).push (PySem.W.instObj C s.heap.objs.size) }) :
  codeAny (model prog w) A (.call (.ref C) ⟨vs, kw⟩) R s := by
 obtain ⟨hh, g, d, t, os⟩ := s
 exact PySem.W.make_core (PySem.W.makes_of X hm) (PySem.W.looks_findIn X hi) (fun self => PySem.W.bind_fn X self hf) (.inl rfl) h
end
noncomputable def EG (f : Str) (v : V) : List (Str × V) → List (Str × V)
 | [] => [(f, v)]
 | (g, x) :: r => if g = f then (g, v) :: r else (g, x) :: EG f v r
theorem F0 (f g : Str) (v : V) : ∀ fs : List (Str × V), (EG f v fs).lookup g = if g = f then some v else fs.lookup g
 | [] => by
  show List.lookup g [(f, v)] = _
  by_cases h : g = f
  ·have hb : (g == f) = true := beq_iff_eq.mpr h
   simp only [List.lookup, hb, if_pos h]
  ·have hb : (g == f) = false := beq_eq_false_iff_ne.mpr h
   simp only [List.lookup, hb, if_neg h]
 | (k, x) :: r => by
  have ih := F0 f g v r
  rw [show EG f v ((k, x) :: r) = (if k = f then (k, v) :: r else (k, x) :: EG f v r) from rfl]
  by_cases hk : k = f
  ·rw [if_pos hk]
   by_cases h : g = k
   ·have hb : (g == k) = true := beq_iff_eq.mpr h
    simp only [List.lookup, hb, if_pos (h.trans hk)]
   ·have hb : (g == k) = false := beq_eq_false_iff_ne.mpr h
    simp only [List.lookup, hb, if_neg (fun e : g = f => h (e.trans hk.symm))]
  ·rw [if_neg hk]
   by_cases h : g = k
   ·have hb : (g == k) = true := beq_iff_eq.mpr h
    simp only [List.lookup, hb, if_neg (fun e : g = f => hk (h.symm.trans e))]
   ·have hb : (g == k) = false := beq_eq_false_iff_ne.mpr h
    simp only [List.lookup, hb]
    exact ih
theorem Fc (f : Str) (v : V) : ∀ fs : List (Str × V), f ∈ (EG f v fs).map (·.1) ∧ ∀ g, g ∈ fs.map (·.1) → g ∈ (EG f v fs).map (·.1)
 | [] => ⟨by simp [EG], fun g h => by simp at h⟩
 | (k, x) :: r => by
  obtain ⟨i1, i2⟩ := Fc f v r
  rw [show EG f v ((k, x) :: r) = (if k = f then (k, v) :: r else (k, x) :: EG f v r) from rfl]
  by_cases hk : k = f
  ·rw [if_pos hk]
   subst hk
   exact ⟨by simp, fun g h => by simpa using h⟩
  ·rw [if_neg hk]
   refine ⟨?_, fun g h => ?_⟩
   ·rw [List.map_cons]
    exact List.mem_cons_of_mem _ i1
   ·rw [List.map_cons] at h ⊢
    rcases List.mem_cons.mp h with e | e
    ·exact List.mem_cons.mpr (.inl e)
    ·exact List.mem_cons_of_mem _ (i2 g e)
theorem GE (f : Str) (v : V) : ∀ fs : List (Str × V), (EG f v fs).length ≤ fs.length + 1
 | [] => by simp [EG]
 | (k, x) :: r => by
  have ih := GE f v r
  rw [show EG f v ((k, x) :: r) = (if k = f then (k, v) :: r else (k, x) :: EG f v r) from rfl]
  by_cases hk : k = f
  ·rw [if_pos hk, List.length_cons, List.length_cons]; lia
  ·rw [if_neg hk, List.length_cons, List.length_cons]; lia
theorem DV.some_of {v : V} {o : Option Value} (r : DV (some v) o) : ∃ u, o = some u ∧ RelV v u := by
 cases o with
 | none => exact (show False from r).elim
 | some u => exact ⟨u, rfl, r⟩
theorem DV.none_of {o : Option Value} (r : DV none o) : o = none := by
 cases o with
 | none => rfl
 | some u => exact (show False from r).elim
theorem MV {v : V} {u : Value} (r : RelV v u) : PySem.W.handedIn u = true := by
 cases v with
 | non => cases (show u = Value.none from r); rfl
 | bl b => cases (show u = Value.bool b from r); rfl
 | int i => obtain ⟨t, e⟩ := (show ∃ t, u = Value.int i t from r); cases e; rfl
 | str x => obtain ⟨t, e⟩ := (show ∃ t, u = Value.str x t from r); cases e; rfl
 | byt b => obtain ⟨t, e⟩ := (show ∃ t, u = Value.bytes b t from r); cases e; rfl
 | flt b => obtain ⟨t, e⟩ := (show ∃ t, u = Value.float b t from r); cases e; rfl
 | ref a => cases (show u = Value.ref a from r); rfl
 | ty n => cases (show u = Value.type n from r); rfl
section
variable {P : Program} {w : World} {H H' : Hp} {h h' : Heap} {a C dx : Addr} {fs fs' : List (Str × V)}
theorem GY (hok : HOk P w H h) (e : H a = some (.ins C dx fs)) : ∃ mA, LS h a dx C mA ∧ (∀ f, DV (fs.lookup f) (mA f)) ∧ PySem.Within mA (fs.map (·.1)) ∧ fs.length ≤ 1000 ∧ H dx = some (.own a) := by
 obtain ⟨d, z, ne, ob, mA, n, r, q⟩ := (show A5 P w H h a (.ins C dx fs) from hok a _ e)
 exact ⟨mA, ⟨ob, n, ne⟩, r, q, z, d⟩
end
structure Cls (K : PySem.W.Frag) (C : Addr) : Prop where
 pg : PySem.W.plainGet K C Str.empty = true
 hd : PySem.W.hasDictIn K C = true
 po : PySem.W.plainOver K C = true
 sa : PySem.W.findIn K (.ref C) "__setattr__" = some (some (.builtin "object.__setattr__"))
theorem Cls.get {K : PySem.W.Frag} {C : Addr} (c : Cls K C) (f : Str) : PySem.W.plainGet K C f = true := c.pg
noncomputable def DC (K : PySem.W.Frag) (C : Addr) (f : Str) : Prop := PySem.W.findIn K (.ref C) f = some none
theorem DC.taker {K : PySem.W.Frag} {C : Addr} {f : Str} (n : DC K C f) : PySem.W.takerIn K C f = some none := by
 unfold PySem.W.takerIn
 rw [show PySem.W.findIn K (.ref C) f = some none from n]
 rfl
structure Nb (K : PySem.W.Frag) (C : Addr) (m : Str) (f : Addr) : Prop where
 at_ : PySem.W.findIn K (.ref C) m = some (some (.ref f))
 fn : PySem.W.isFn K (.ref f) = true
 kp : PySem.W.keepIn K (.ref f) = true
section
variable {X : Cx} {pins : List (Addr × Obj)} {σ : St} {H : Hp} {s : Shared} {a C dx : Addr} {fs : List (Str × V)} {f : Str} {v : V} {A : Around} {E : Value → Shared → Prop}
theorem LL {b : Bool} {Q : Value → Shared → Prop} (I : Inv X pins σ H s) (e : H a = some (.ins C dx fs)) (c : Cls X.K C) (n : DC X.K C f) (l : fs.lookup f = some v)
  (h : ∀ u s', Inv X pins σ H s' → RelV v u → Q u s') : wpAny (model X.prog X.w) A (getAttr (.ref a) f b) Q E s := by
 obtain ⟨mA, O, r, _, _, _⟩ := GY I.hok e
 obtain ⟨u, hu, ru⟩ := DV.some_of (v := v) (o := mA f) (by rw [← l]; exact r f)
 exact OE I.kIn O (c.get f) c.hd n hu (MV ru) (h u _ (I.tok _) ru)
theorem Gj {m : Str} {g : Addr} {pl : Sem Bool} {Q : Value × List Value → Shared → Prop} (I : Inv X pins σ H s) (e : H a = some (.ins C dx fs)) (c : Cls X.K C) (k : Nb X.K C m g) (l : fs.lookup m = none)
  (h : Q (.ref g, [.ref a]) s) : wpAny (model X.prog X.w) A (getMethod (.ref a) m pl) Q E s := by
 obtain ⟨mA, O, r, _, _, _⟩ := GY I.hok e
 have hn : mA m = none := DV.none_of (by rw [← l]; exact r m)
 exact Mw I.kIn O (c.get m) k.at_ k.fn hn h
theorem Kt {y : V} {u : Value} {Q : Unit → Shared → Prop} (I : Inv X pins σ H s) (e : H a = some (.ins C dx fs)) (c : Cls X.K C) (n : DC X.K C f) (hl : fs.length < 1000) (ry : RelV y u)
  (h : ∀ s', Inv X pins σ (upd H a (.ins C dx (EG f y fs))) s' → Q () s') : wpAny (model X.prog X.w) A (setAttr (.ref a) f u) Q E s := by
 obtain ⟨mA, O, r, wi, _, ho⟩ := GY I.hok e
 have hz : (fs.map (·.1)).length ≤ sizeLine := by rw [List.length_map, sizeLine_eq]; lia
 refine OD I.kIn O c.sa c.po n.taker c.hd wi hz fun h' O' sb => h _ ?_
 have hd : ∃ o, h'.get? dx = some o := let ⟨o, _, _, e', _⟩ := O'.ns; ⟨o, e'⟩
 refine I.write (x := a) (e := dx) (by rw [e]; exact True.intro) (.inr ho) (fun b q hb z => (sb.2 b hb).trans z) hd ?_
 refine ⟨by rw [AI O.ne]; exact ho, ?_, O.ne, O'.obj, _, O'.ns, fun g => ?_, fun g hg => ?_⟩
 ·have := GE f y fs; lia
 ·show DV ((EG f y fs).lookup g) (if g = f then some u else mA g)
  rw [F0]
  by_cases q : g = f
  ·rw [if_pos q, if_pos q]; exact ry
  ·rw [if_neg q, if_neg q]; exact r g
 ·by_cases q : g = f
  ·rw [q]; exact (Fc f y fs).1
  ·refine (Fc f y fs).2 g (wi g fun z => hg ?_)
   show (if g = f then some u else mA g) = none
   rw [if_neg q]; exact z
theorem Inv.made (I : Inv X pins σ H s) : Inv X pins σ (upd (upd H s.heap.objs.size (.own (s.heap.objs.size + 1))) (s.heap.objs.size + 1) (.ins C s.heap.objs.size []))
  { s with heap := (s.heap.push PySem.W.emptyDict).push (PySem.W.instObj C s.heap.objs.size) } := by
 have e1 : (s.heap.push PySem.W.emptyDict).get? s.heap.objs.size = some PySem.W.emptyDict := Heap.get?_push_size s.heap rfl
 have e2 : ((s.heap.push PySem.W.emptyDict).push (PySem.W.instObj C s.heap.objs.size)).get? (s.heap.objs.size + 1) = some (PySem.W.instObj C s.heap.objs.size) := by
  have := Heap.get?_push_size (s.heap.push PySem.W.emptyDict) (o := PySem.W.instObj C s.heap.objs.size) rfl
  rwa [Heap.size_push] at this
 have e3 : (s.heap.push PySem.W.emptyDict).Ns s.heap.objs.size (fun _ => none) := ⟨PySem.W.emptyDict, #[], _, e1, rfl, (fun e he => absurd he (by simp)), fun _ => rfl⟩
 have I1 := I.laid (a := s.heap.objs.size) (o := .own (s.heap.objs.size + 1)) (h' := s.heap.push PySem.W.emptyDict) (t' := s.toks) (fun b u q => Heap.get?_push_of_some _ q) (Nat.le_refl _) ⟨_, e1⟩
 refine I1.laid (a := s.heap.objs.size + 1) (o := .ins C s.heap.objs.size []) (t' := s.toks) (fun b u q => Heap.get?_push_of_some _ q) (Nat.le_of_eq (Heap.size_push _ _)) ?_
 have ne : s.heap.objs.size ≠ s.heap.objs.size + 1 := Nat.ne_of_lt (Nat.lt_succ_self _)
 refine ⟨by rw [AI ne, AG], Nat.zero_le _, ne, e2, fun _ => none, (Heap.Ns1.of_empty e3).at fun o q => Heap.get?_push_of_some _ q, fun _ => True.intro, fun y hy => absurd rfl hy⟩
theorem OG {prog : Program} {w : World} {env : Env} {e : Expr} {f : Str} {pos : Pos} {s : Shared} {Q : Value → Shared → Prop} (hb : attributeBase e f env (eval e env) = eval e env)
  (h : wpAny (model prog w) A (eval e env) (fun o s₁ => wpAny (model prog w) A (getAttr o f true) Q E s₁) E s) : wpAny (model prog w) A (eval (.Attribute e f pos) env) Q E s :=
 Attribute_any_ h (by rw [arm_eval_Attribute, hb])
end
noncomputable def Hr (K : PySem.W.Frag) (ta : TE) (f : Str) : TE := fun σ H Q => ta σ H fun x H1 => ∃ a C dx fs v, x = .ref a ∧ H1 a = some (.ins C dx fs) ∧ Cls K C ∧ DC K C f ∧ fs.lookup f = some v ∧ Q v H1
noncomputable def Ht (K : PySem.W.Frag) (ta tv : TE) (f : Str) : TS := fun D σ H => tv σ H fun y H1 => ta σ H1 fun x H2 => ∃ a C dx fs, x = .ref a ∧ H2 a = some (.ins C dx fs) ∧ Cls K C ∧ DC K C f ∧ fs.length < 1000 ∧
 D.nx σ (upd H2 a (.ins C dx (EG f y fs)))
section
variable {X : Cx} {o e value : Expr} {f : Str} {pos pos' tpos : Pos} {ta tv : TE}
theorem Bi (he : PE X e ta) (hb : attributeBase e f X.env (eval e X.env) = eval e X.env) : PE X (.Attribute e f pos) (Hr X.K ta f) := by
 intro pins s σ H Q I h
 refine OG hb (thn (he pins s σ H _ I h) fun u s1 zq => ?_)
 obtain ⟨x, H1, I1, rx, a, C, dx, fs, v, ex, ea, c, n, l, q⟩ := zq
 subst ex
 obtain rfl : u = Value.ref a := rx
 exact LL I1 ea c n l fun u' s2 I2 ru => ⟨v, H1, I2, ru, q⟩
theorem Fw (ha : PE X o ta) (hv : PE X value tv) (hs : swapsWith value (some (.Attribute o f pos')) pos.line X.env = pure false) : PS X (.Assign [.Attribute o f pos'] value pos) (Ht X.K ta tv f) := by
 intro pins s σ H D I h
 refine plainObj_wpAny_Assign_Attribute (thn (hv pins s σ H _ I h) fun u s1 ⟨y, H1, I1, ry, q⟩ => thn (ha pins s1 σ H1 _ I1 q) fun ov s2 ⟨x, H2, I2, rx, a, C, dx, fs, ex, ea, c, n, l, q2⟩ => ?_) hs
 subst ex
 obtain rfl : ov = Value.ref a := rx
 exact Kt I2 ea c n l ry fun s3 I3 => ⟨σ, _, I3, q2⟩
end
section
variable {X : Cx} {pins : List (Addr × Obj)} {σ : St} {H : Hp} {s : Shared} {A : Around} {E : Value → Shared → Prop} {Q : Value → Shared → Prop} {c : Value} {b : Bool}
inductive Dy (K : PySem.W.Frag) (H : Hp) : V → Value → Prop where
 | non : Dy K H .non (.type "NoneType")
 | bl (x : Bool) : Dy K H (.bl x) (.type "bool")
 | int (i : Int) : Dy K H (.int i) (.type "int")
 | str (x : Str) : Dy K H (.str x) (.type "str")
 | flt (x : UInt64) : Dy K H (.flt x) (.type "float")
 | lst {a : Addr} {xs : List V} (e : H a = some (.lst xs)) : Dy K H (.ref a) (.type "list")
 | frz {a : Addr} {o : Obj} {xs : List V} (e : H a = some (.frz o (.lst xs))) : Dy K H (.ref a) (.type "list")
 | tup {a : Addr} {xs : List V} (e : H a = some (.tup xs)) : Dy K H (.ref a) (.type "tuple")
 | dK {a : Addr} {kvs : List (Key × V)} (e : H a = some (.dK kvs)) : Dy K H (.ref a) (.type "dict")
 | dT {a : Addr} {kvs : List (List Key × V)} (e : H a = some (.dT kvs)) : Dy K H (.ref a) (.type "dict")
 | ins {a C dx : Addr} {fs : List (Str × V)} (e : H a = some (.ins C dx fs)) (cl : Cls K C) (ha : PySem.W.findIn K (.ref C) "__class__" = some (some (.builtin "object.__class__")))
   (hn : PySem.W.specialIn K (.builtin "object.__class__") "__get__" = some (some (.builtin "getset_descriptor.__get__"))) (htk : PySem.W.takesIn K (.builtin "object.__class__") = some true)
   (hm : PySem.W.mroIn K C (.type "object") = some true) : Dy K H (.ref a) (.ref C)
theorem Ml {x : V} {u t : Value} (I : Inv X pins σ H s) (rx : RelV x u) (ty : Dy X.K H x t) (e : PySem.W.kitOne X.K t c = some b) (h : ∀ tk, Q (.bool b) { s with toks := tk }) :
  wpAny (model X.prog X.w) A (call (.builtin "isinstance") [u, c]) Q E s := by
 cases ty with
 | non => cases (show u = Value.none from rx); exact PySem.W.kia_one PySem.W.kitx_none I.kIn True.intro e (fun z => nomatch z) h
 | bl y => cases (show u = Value.bool y from rx); exact PySem.W.kia_one PySem.W.kitx_bool I.kIn True.intro e (fun z => nomatch z) h
 | int i => obtain ⟨t, q⟩ := (show ∃ t, u = Value.int i t from rx); cases q; exact PySem.W.kia_one PySem.W.kitx_int I.kIn True.intro e (fun z => nomatch z) h
 | str y => obtain ⟨t, q⟩ := (show ∃ t, u = Value.str y t from rx); cases q; exact PySem.W.kia_one PySem.W.kitx_str I.kIn True.intro e (fun z => nomatch z) h
 | flt y => obtain ⟨t, q⟩ := (show ∃ t, u = Value.float y t from rx); cases q; exact PySem.W.kia_one PySem.W.kitx_float I.kIn True.intro e (fun z => nomatch z) h
 | @lst a xs ea =>
  cases (show u = Value.ref a from rx)
  obtain ⟨_, _, n, _, h1⟩ := (show A5 X.prog X.w H s.heap a (.lst xs) from I.hok a _ ea)
  exact PySem.W.kia_one PySem.W.kitx_list I.kIn ⟨_, h1, rfl⟩ e (fun z => nomatch z) h
 | @frz a ob xs ea =>
  cases (show u = Value.ref a from rx)
  obtain ⟨_, _, _, n, _, h1⟩ := (show A5 X.prog X.w H s.heap a (.frz ob (.lst xs)) from I.hok a _ ea)
  exact PySem.W.kia_one PySem.W.kitx_list I.kIn ⟨_, h1, rfl⟩ e (fun z => nomatch z) h
 | @tup a xs ea =>
  cases (show u = Value.ref a from rx)
  obtain ⟨_, _, _, p⟩ := (show A5 X.prog X.w H s.heap a (.tup xs) from I.hok a _ ea)
  obtain ⟨o, h1, h2, _⟩ := p
  exact PySem.W.kia_one PySem.W.kitx_tuple I.kIn ⟨o, h1, h2⟩ e (fun z => nomatch z) h
 | @dK a kvs ea =>
  cases (show u = Value.ref a from rx)
  obtain ⟨_, _, vs, _, p⟩ := (show A5 X.prog X.w H s.heap a (.dK kvs) from I.hok a _ ea)
  obtain ⟨o, es, ep, h1, h2, _⟩ := p
  exact PySem.W.kia_one PySem.W.kitx_dict I.kIn ⟨o, h1, h2.1⟩ e (fun z => nomatch z) h
 | @dT a kvs ea =>
  cases (show u = Value.ref a from rx)
  obtain ⟨_, _, xs, _, o, es, ep, h1, h2, _⟩ := (show A5 X.prog X.w H s.heap a (.dT kvs) from I.hok a _ ea)
  exact PySem.W.kia_one PySem.W.kitx_dict I.kIn ⟨o, h1, h2.1⟩ e (fun z => nomatch z) h
 | @ins a C dx fs ea cl ha hn htk hm =>
  cases (show u = Value.ref a from rx)
  obtain ⟨mA, O, _⟩ := GY I.hok ea
  obtain ⟨od, J, _⟩ := O.look
  exact PySem.W.kia_one (PySem.W.kitx_own (cl.get _) cl.hd ha hn htk hm) I.kIn J e (fun z => nomatch z) h
end
structure BY (k : Nat) (A : Around) : Prop where
 hd : A.handled = none
 dp : A.depth + 3 * k + 5 < recursionLimit
 un : A.units + 16 * k + 200 < cLine
theorem BY.mono {j k : Nat} {A : Around} (r : BY k A) (h : j ≤ k) : BY j A := ⟨r.hd, by have := r.dp; lia, by have := r.un; lia⟩
theorem BY.deeper {k : Nat} {A : Around} (r : BY (k + 1) A) (env : Env) : BY k (A.deeper env) :=
 ⟨r.hd, by have := r.dp; show A.depth + 1 + 3 * k + 5 < _; lia, by have := r.un; show A.units + 3 + 16 * k + 200 < _; lia⟩
theorem LN {A : Around} {C : Addr} {us : List Value} {kw : List (Str × Value)} : (A.under (.builtin "type.__call__" ⟨.ref C :: us, kw⟩)).depth = A.depth + 1 := by
 first | rfl | simp [Around.under, Code.weight, Code.isCreation, Code.isGuard, Code.isCaller, Code.frames, Code.isFrame, guardIds]
theorem Ko {A : Around} {C : Addr} {us : List Value} {kw : List (Str × Value)} : (A.under (.builtin "type.__call__" ⟨.ref C :: us, kw⟩)).units = A.units + 1 := by
 first | rfl | simp [Around.under, Code.cUnits, Code.frames, Code.isFrame]
theorem BY.make {k : Nat} {A : Around} (r : BY (k + 1) A) (C : Addr) (us : List Value) (kw : List (Str × Value)) : BY k (A.under (.builtin "type.__call__" ⟨.ref C :: us, kw⟩)) :=
 ⟨r.hd, by have := r.dp; rw [LN]; lia, by have := r.un; rw [Ko]; lia⟩
theorem BY.depth {k : Nat} {A : Around} (r : BY k A) : A.depth < recursionLimit := by have := r.dp; lia
theorem BY.units {k : Nat} {A : Around} (r : BY k A) : A.units + 64 < cLine := by have := r.un; lia
noncomputable def Fg : TA := fun _ H Q => Q [] H
noncomputable def Dw (ta : TE) (tr : TA) : TA := fun σ H Q => ta σ H fun x H1 => tr σ H1 fun xs H2 => Q (x :: xs) H2
section
variable {X : Cx} {e : Expr} {es : List Expr} {te : TE} {t : TA} {pos : Pos}
theorem AC : PA X [] Fg := fun _ _ _ _ H Q I h => Calls.spliced_nil ⟨[], H, I, .nil, h⟩
theorem AA (ha : PE X e te) (hr : PA X es t) (hs : starEach (e :: es) X.env = (false, eval e X.env) :: starEach es X.env := by rfl) : PA X (e :: es) (Dw te t) := by
 intro pos pins s σ H Q I h
 rw [hs]
 show wpAny _ _ (spliced ((false, eval e X.env) :: backTo pos (starEach es X.env))) _ _ s
 refine Calls.spliced_cons (thn (ha pins s σ H _ I h) fun u s1 zq => ?_)
 obtain ⟨x, H1, I1, r1, q1⟩ := zq
 exact thn (hr pos pins s1 σ H1 _ I1 q1) fun us s2 ⟨xs, H2, I2, r2, q2⟩ => ⟨x :: xs, H2, I2, .cons r1 r2, q2⟩
end
noncomputable abbrev Sp := List V → Hp → VK → XK → Prop
noncomputable abbrev CXT := List Env → Hp → Shared → XK → Value → Shared → Prop
structure LY (P : Program) (w : World) (K : PySem.W.Frag) (mg : Str → Option Value) (base : Heap) (A : Around) (outer : List Env) (s : Shared) (H : Hp) : Prop where
 frames : A.frames = some outer
 mod : Mod K mg base
 bs : ∀ b o, base.get? b = some o → s.heap.get? b = some o ∧ H b = none
 bsz : base.objs.size ≤ s.heap.objs.size
 funs : s.heap.FunFrames base outer
 frf : ∀ b ∈ frs outer, H b = none
 hok : HOk P w H s.heap
 bare : AllBare s.gens
noncomputable def CE (outer : List Env) (P : Program) (w : World) (H : Hp) (s : Shared) (Q : VK) (u : Value) (s' : Shared) : Prop :=
 ∃ v H', s'.os = s.os ∧ AllBare s'.gens ∧ Un (frs outer) [] H H' s.heap s'.heap ∧ HOk P w H' s'.heap ∧ RelV v u ∧ Q v H'
noncomputable def CR (CX : CXT) (outer : List Env) (P : Program) (w : World) (H : Hp) (s : Shared) (Q : VK) (E : XK) (r : Result) (s' : Shared) : Prop :=
 match r with
 | .ok (.ret u) => CE outer P w H s Q u s'
 | .ok _ => False
 | .error e => CX outer H s E e s'
structure Ag (P : Program) (w : World) (K : PySem.W.Frag) (mg : Str → Option Value) (base : Heap) (CX : CXT) (k : Nat) (f : Addr) (fd : FuncData) (ps : List Str) (sp : Sp) : Prop where
 len : ∀ vs H Q E, sp vs H Q E → vs.length = ps.length
 run : ∀ (A : Around) (outer : List Env) (s : Shared) (H : Hp) (args : Args) (us : List Value) (vs : List V) (Q : VK) (E : XK), BY k A → LY P w K mg base A outer s H → BindsTo s fd args (ps.zip us) → AX vs us → sp vs H Q E →
  codeAny (model P w) A (.call (.ref f) args) (CR CX outer P w H s Q E) s
theorem Ag.mono {P : Program} {w : World} {K : PySem.W.Frag} {mg : Str → Option Value} {base : Heap} {CX : CXT} {j k : Nat} {f : Addr} {fd : FuncData} {ps : List Str} {sp : Sp} (F : Ag P w K mg base CX j f fd ps sp) (h : j ≤ k) :
  Ag P w K mg base CX k f fd ps sp := ⟨F.len, fun A outer s H args us vs Q E hr => F.run A outer s H args us vs Q E (hr.mono h)⟩
theorem LY.make {P : Program} {w : World} {K : PySem.W.Frag} {mg : Str → Option Value} {base : Heap} {A : Around} {outer : List Env} {s : Shared} {H : Hp} (e : LY P w K mg base A outer s H) (C : Addr) (us : List Value) (kw : List (Str × Value)) :
  LY P w K mg base (A.under (.builtin "type.__call__" ⟨.ref C :: us, kw⟩)) outer s H := ⟨by first | exact e.frames | (simpa [Around.under, Code.envs, Code.isFrame, pushEnvs] using e.frames), e.mod, e.bs, e.bsz, e.funs, e.frf, e.hok, e.bare⟩
section
variable {X : Cx} {pins : List (Addr × Obj)} {σ : St} {H : Hp} {s s' : Shared}
theorem Inv.env0 (I : Inv X pins σ H s) : LY X.prog X.w X.K X.mg X.base X.A X.stack s H :=
 ⟨I.ok.frames, I.ok.mod, I.bs, Nat.le_trans I.ok.bsz I.sz, I.stack, I.stkFree, I.hok, I.bare⟩
theorem Inv.after {Q : VK} {u : Value} (I : Inv X pins σ H s) (h : CE X.stack X.prog X.w H s Q u s') : EP X pins σ Q u s' := by
 obtain ⟨v, H', os, bare, un, hok, r, q⟩ := h
 obtain ⟨hh, g, d, t, os'⟩ := s'
 obtain rfl : os' = s.os := os
 exact ⟨v, H', I.call (h' := hh) (g' := g) (d' := d) (t' := t) (ch := []) un hok bare (fun b z => absurd z (by simp)), r, q⟩
end
noncomputable def Dl (sp : Sp) (dvs : List V) (E : XK) (t : TA) : TE := fun σ H Q => t σ H fun vs H1 => sp (vs ++ dvs) H1 Q E
noncomputable def Da (C : Addr) (m : Str) (sp : Sp) (dvs : List V) (E : XK) (ta : TE) (t : TA) : TE := fun σ H Q => ta σ H fun x H1 => ∃ a dx fs, x = .ref a ∧ H1 a = some (.ins C dx fs) ∧ fs.lookup m = none ∧
 t σ H1 fun vs H2 => sp (x :: (vs ++ dvs)) H2 Q E
noncomputable def EZ (C : Addr) (sp : Sp) (dvs : List V) (E : XK) (t : TA) : TE := fun σ H Q => t σ H fun vs H1 => ∀ x dx, H1 x = none → H1 dx = none → dx ≠ x →
 sp (.ref x :: (vs ++ dvs)) (upd (upd H1 dx (.own x)) x (.ins C dx [])) (fun v H2 => v = .non ∧ Q (.ref x) H2) E
noncomputable def Binds (K : PySem.W.Frag) (fd : FuncData) (ps : List Str) (ds : List Value) : Prop :=
 ∀ (s : Shared) (us : List Value), K.In s.heap → (us ++ ds).length = ps.length → BindsTo s fd ⟨us, []⟩ (ps.zip (us ++ ds))
theorem Binds.all {K : PySem.W.Frag} {fd : FuncData} {ps : List Str} (h : ∀ us : List Value, us.length = ps.length → bindArgs fd ⟨us, []⟩ = pure (ps.zip us)) : Binds K fd ps [] := fun s us _ hl => by
 rw [List.append_nil] at hl ⊢
 exact .of_eq (h us hl)
noncomputable def Cy (CX : CXT) (X : Cx) (E : XK) : Prop := ∀ (pins : List (Addr × Obj)) (σ : St) (H : Hp) (s : Shared) (e : Value) (s' : Shared), Inv X pins σ H s → CX X.stack H s E e s' → X.xe e s'
section
variable {X : Cx} {CX : CXT} {k : Nat} {f C : Addr} {fd : FuncData} {ps : List Str} {sp : Sp} {dvs : List V} {ds : List Value} {E : XK} {x m : Str} {p pos apos : Pos} {e o : Expr} {es : List Expr} {ta : TE} {t : TA}
theorem JO {pins : List (Addr × Obj)} {σ : St} {H : Hp} {s : Shared} {Q : VK} {us : List Value} {vs : List V} (F : Ag X.prog X.w X.K X.mg X.base CX k f fd ps sp) (hr : BY k X.A) (hb : Binds X.K fd ps ds) (hd : AX dvs ds) (hx : Cy CX X E)
  (I : Inv X pins σ H s) (r : AX vs us) (h : sp (vs ++ dvs) H Q E) : wpAny (model X.prog X.w) X.A (call (.ref f) us) (EP X pins σ Q) X.xe s := by
 have r2 : AX (vs ++ dvs) (us ++ ds) := r.append hd
 have hl : (us ++ ds).length = ps.length := by rw [← r2.length]; exact F.len _ _ _ _ h
 refine wpAny_call (codeAny_mono (F.run X.A X.stack s H ⟨us, []⟩ (us ++ ds) (vs ++ dvs) Q E hr I.env0 (hb s us I.kIn hl) r2 h) fun r s' hq => ?_)
 cases r with
 | error e => exact hx pins σ H s e s' I hq
 | ok fl =>
  cases fl with
  | ret u => exact I.after hq
  | next => exact False.elim hq
  | brk => exact False.elim hq
  | cont => exact False.elim hq
theorem Os (F : Ag X.prog X.w X.K X.mg X.base CX k f fd ps sp) (hr : BY k X.A) (hg : Gl X x) (hm : X.mg x = some (.ref f)) (hk : PySem.W.keepIn X.K (.ref f) = true) (hb : Binds X.K fd ps ds) (hd : AX dvs ds) (hx : Cy CX X E)
  (ha : PA X (e :: es) t) (hdb : (x == ("__debug__" : Str)) = false := by decide) (he : starEach (e :: es) X.env = (false, eval e X.env) :: starEach es X.env := by rfl) (hpl : (backTo pos (starEach es X.env)).any (·.1) = false := by rfl) :
  PE X (.Call (.Name x p) (e :: es) [] pos) (Dl sp dvs E t) := by
 intro pins s σ H Q I h
 refine wpAny_Call_Name_kw (DO I hg hm ?_ hdb)
 refine PySem.W.callWith_K (h₀ := X.base) I.ok.mod.kin hk (thn (ha pos pins s σ H _ I h) fun us s1 ⟨vs, H1, I1, r, q⟩ => ⟨I1.kIn, ?_⟩) he hpl
 exact JO F hr hb hd hx I1 r q
theorem BQ {pl : Sem Bool} (he : PE X o ta) (c : Cls X.K C) (hm : Nb X.K C m f) (F : Ag X.prog X.w X.K X.mg X.base CX k f fd ps sp) (hr : BY k X.A) (hb : Binds X.K fd ps ds) (hd : AX dvs ds) (hx : Cy CX X E) (ha : PA X (e :: es) t)
  (hst : starEach (e :: es) X.env = (false, eval e X.env) :: starEach es X.env := by rfl) (hpl : (backTo pos (starEach es X.env)).any (·.1) = false := by rfl)
  (ht : eval (.Call (.Attribute o m apos) (e :: es) [] pos) X.env = (do
   let ov ← eval o X.env
   standAt apos.atName
   let (f, first) ← holding [ov] (getMethod ov m pl)
   callWith pos f first (backTo pos (starEach (e :: es) X.env)) (backToKw pos (keywordEach [] X.env))) := by rfl) :
  PE X (.Call (.Attribute o m apos) (e :: es) [] pos) (Da C m sp dvs E ta t) := by
 intro pins s σ H Q I h
 refine PySem.W.methodCall_KW (pl := pl) (thn (he pins s σ H _ I h) fun u s1 ⟨x, H1, I1, rx, a, dx, fs, ex, ea, l, q⟩ => ?_) ht
 subst ex
 obtain rfl : u = Value.ref a := rx
 refine Gj I1 ea c hm l ?_
 refine PySem.W.callWith_K (first := [.ref a]) (h₀ := X.base) I.ok.mod.kin hm.kp (thn (ha pos pins s1 σ H1 _ I1 q) fun us s2 ⟨vs, H2, I2, r, q2⟩ => ⟨I2.kIn, ?_⟩) hst hpl
 exact JO (us := .ref a :: us) (vs := .ref a :: vs) F hr hb hd hx I2 (.cons rfl r) q2
theorem Gv {pl : Sem Bool} (he : PE X o ta) (c : Cls X.K C) (hm : Nb X.K C m f) (F : Ag X.prog X.w X.K X.mg X.base CX k f fd ps sp) (hr : BY k X.A) (hb : Binds X.K fd ps ds) (hd : AX dvs ds) (hx : Cy CX X E)
  (ht : eval (.Call (.Attribute o m apos) [] [] pos) X.env = (do
   let ov ← eval o X.env
   standAt apos.atName
   let (f, first) ← holding [ov] (getMethod ov m pl)
   callWith pos f first (backTo pos (starEach [] X.env)) (backToKw pos (keywordEach [] X.env))) := by rfl) :
  PE X (.Call (.Attribute o m apos) [] [] pos) (Da C m sp dvs E ta Fg) := by
 intro pins s σ H Q I h
 refine PySem.W.methodCall_KW (pl := pl) (thn (he pins s σ H _ I h) fun u s1 ⟨x, H1, I1, rx, a, dx, fs, ex, ea, l, q⟩ => ?_) ht
 subst ex
 obtain rfl : u = Value.ref a := rx
 refine Gj I1 ea c hm l ?_
 exact PySem.W.callWith_K0 (first := [.ref a]) I1.kIn hm.kp (JO (us := [.ref a]) (vs := [.ref a]) F hr hb hd hx I1 (.cons rfl .nil) q)
structure Mk (K : PySem.W.Frag) (C f : Addr) : Prop where
 makes : PySem.W.makesIn K C = true
 init : PySem.W.findIn K (.ref C) "__init__" = some (some (.ref f))
 fn : PySem.W.isFn K (.ref f) = true
 kp : PySem.W.keepIn K (.ref C) = true
theorem Na {pins : List (Addr × Obj)} {σ : St} {H : Hp} {s : Shared} {Q : VK} {us : List Value} {vs : List V} (M : Mk X.K C f) (F : Ag X.prog X.w X.K X.mg X.base CX k f fd ps sp) (hr : BY (k + 1) X.A) (hb : Binds X.K fd ps ds) (hd : AX dvs ds)
  (hx : Cy CX X E) (I : Inv X pins σ H s) (r : AX vs us)
  (h : ∀ x dx, H x = none → H dx = none → dx ≠ x → sp (.ref x :: (vs ++ dvs)) (upd (upd H dx (.own x)) x (.ins C dx [])) (fun v H2 => v = .non ∧ Q (.ref x) H2) E) :
  wpAny (model X.prog X.w) X.A (call (.ref C) us) (EP X pins σ Q) X.xe s := by
 have hq := h (s.heap.objs.size + 1) s.heap.objs.size (I.hok.fresh (Nat.le_succ _)) (I.hok.fresh (Nat.le_refl _)) (Nat.ne_of_lt (Nat.lt_succ_self _))
 have I2 := Inv.made (C := C) I
 have r2 : AX (V.ref (s.heap.objs.size + 1) :: (vs ++ dvs)) (Value.ref (s.heap.objs.size + 1) :: (us ++ ds)) := .cons rfl (r.append hd)
 have hl : (Value.ref (s.heap.objs.size + 1) :: us ++ ds).length = ps.length := by
  have e := r2.length
  rw [F.len _ _ _ _ hq] at e
  exact e.symm
 refine wpAny_call (Nw (f := f) I.kIn M.makes M.init (beq_iff_eq.mp M.fn) (codeAny_mono (F.run _ X.stack _ _ ⟨Value.ref (s.heap.objs.size + 1) :: us, []⟩ (Value.ref (s.heap.objs.size + 1) :: (us ++ ds)) _ _ E (hr.make C us [])
  (I2.env0.make C us []) (hb _ (Value.ref (s.heap.objs.size + 1) :: us) I2.kIn hl) r2 hq) fun r s' hq' => ?_))
 cases r with
 | error e => exact hx pins σ _ _ e s' I2 hq'
 | ok fl =>
  cases fl with
  | ret u =>
   obtain ⟨v, H', I3, rv, ev, q3⟩ := I2.after hq'
   subst ev
   exact ⟨rv, ⟨V.ref (s.heap.objs.size + 1), H', I3, rfl, q3⟩⟩
  | next => exact False.elim hq'
  | brk => exact False.elim hq'
  | cont => exact False.elim hq'
theorem KA (M : Mk X.K C f) (F : Ag X.prog X.w X.K X.mg X.base CX k f fd ps sp) (hr : BY (k + 1) X.A) (hg : Gl X x) (hm : X.mg x = some (.ref C)) (hb : Binds X.K fd ps ds) (hd : AX dvs ds) (hx : Cy CX X E)
  (hdb : (x == ("__debug__" : Str)) = false := by decide) : PE X (.Call (.Name x p) [] [] pos) (EZ C sp dvs E Fg) := by
 intro pins s σ H Q I h
 refine wpAny_Call_Name_kw (DO I hg hm ?_ hdb)
 exact PySem.W.callWith_K0 I.kIn M.kp (Na (us := []) M F hr hb hd hx I .nil h)
end
section
variable {X : Cx} {CX : CXT} {k : Nat} {f C : Addr} {fd : FuncData} {ps ks : List Str} {sp : Sp} {E : XK} {x m : Str} {p pos apos kpos : Pos} {e o : Expr} {es : List Expr} {kws : List Keyword} {te ta : TE} {t tk : TA} {nm : Option Str}
variable {g : List Value → List Value → List Value} {gV : List V → List V → List V}
end
structure AN (N P : List Str) (sc : Scope) : Prop where
 kind : sc.kind = .function
 co : sc.isCoroutine = false
 gen : sc.isGenerator = false
 nd : N.Nodup
 pre : N.take P.length = P
 par : ∀ x ∈ P, sc.names.lookup x = some .local ∨ sc.names.lookup x = some .cell
 nofree : ∀ y ∈ sc.names, y.2 ≠ .free
theorem IT {kindOf : Str → Option NameKind} {x : Str} : ∀ {binds : List (Str × Value)} {m : Str → Option Value}, (∀ v, (x, v) ∉ binds) → bindL kindOf binds m x = m x
 | [], _, _ => rfl
 | (n, v) :: r, m, h => by
  unfold bindL
  rw [IT fun w hw => h w (List.mem_cons_of_mem _ hw)]
  split
  ·have : x ≠ n := by rintro rfl; exact h v List.mem_cons_self
   simp [this]
  ·rfl
theorem IZ {kindOf : Str → Option NameKind} {x : Str} : ∀ {binds : List (Str × Value)} {m : Str → Option Value}, (∀ v, (x, v) ∉ binds) → bindC kindOf binds m x = m x
 | [], _, _ => rfl
 | (n, v) :: r, m, h => by
  unfold bindC
  rw [IZ fun w hw => h w (List.mem_cons_of_mem _ hw)]
  split
  ·rfl
  ·have : x ≠ n := by rintro rfl; exact h v List.mem_cons_self
   simp [this]
theorem Ii {kindOf : Str → Option NameKind} {x : Str} {v : Value} : ∀ {P : List Str} {vs : List Value} {i : Nat} {m : Str → Option Value}, P.Nodup → P[i]? = some x → vs[i]? = some v → kindOf x = some .local →
  bindL kindOf (P.zip vs) m x = some v
 | [], _, _, _, _, h, _, _ => by simp at h
 | _ :: _, [], _, _, _, _, h, _ => by simp at h
 | p :: P, w :: vs, 0, m, nd, h1, h2, hk => by
  simp at h1 h2; subst h1; subst h2
  show bindL kindOf ((p, w) :: P.zip vs) m p = _
  unfold bindL
  rw [IT fun v hv => (List.nodup_cons.mp nd).1 (List.of_mem_zip hv).1, if_pos hk]
  simp
 | p :: P, w :: vs, i + 1, m, nd, h1, h2, hk => by
  show bindL kindOf ((p, w) :: P.zip vs) m x = _
  unfold bindL
  exact Ii (i := i) (List.nodup_cons.mp nd).2 (by simpa using h1) (by simpa using h2) hk
theorem Iv {kindOf : Str → Option NameKind} {x : Str} {v : Value} : ∀ {P : List Str} {vs : List Value} {i : Nat} {m : Str → Option Value}, P.Nodup → P[i]? = some x → vs[i]? = some v → kindOf x ≠ some .local →
  bindC kindOf (P.zip vs) m x = some v
 | [], _, _, _, _, h, _, _ => by simp at h
 | _ :: _, [], _, _, _, _, h, _ => by simp at h
 | p :: P, w :: vs, 0, m, nd, h1, h2, hk => by
  simp at h1 h2; subst h1; subst h2
  show bindC kindOf ((p, w) :: P.zip vs) m p = _
  unfold bindC
  rw [IZ fun v hv => (List.nodup_cons.mp nd).1 (List.of_mem_zip hv).1, if_neg hk]
  simp
 | p :: P, w :: vs, i + 1, m, nd, h1, h2, hk => by
  show bindC kindOf ((p, w) :: P.zip vs) m x = _
  unfold bindC
  exact Iv (i := i) (List.nodup_cons.mp nd).2 (by simpa using h1) (by simpa using h2) hk
noncomputable def start (N : List Str) (vs : List V) : St := vs.map some ++ List.replicate (N.length - vs.length) none
noncomputable def Au (CX : CXT) (P : Program) (w : World) (K : PySem.W.Frag) (mg : Str → Option Value) (base : Heap) (N : List Str) (qual : Str) (scope : Scope) (f : Addr) (cd : Value) (A : Around) (outer : List Env) (s : Shared) (H : Hp) (E : XK) : Cx where
 prog := P
 w := w
 K := K
 mg := mg
 base := base
 A := A.deeper (envOfC qual scope s.heap.objs.size f cd)
 N := N
 s₀ := s
 H₀ := H
 env := envOfC qual scope s.heap.objs.size f cd
 outer := outer
 stack := envOfC qual scope s.heap.objs.size f cd :: outer
 ex := []
 calm := true
 fn := fun _ => true
 pn := []
 xe := fun e s' => wpAny (model P w) (A.deeper (envOfC qual scope s.heap.objs.size f cd)) (leaving (envOfC qual scope s.heap.objs.size f cd) e) (fun _ s'' => CX outer H s E e s'') (fun e' s'' => CX outer H s E e' s'') s'
theorem J1 {sc : Scope} {n : Nat} {x : Str} (h : sc.names.lookup x = some .cell) : ∃ c, (cellsFrom n sc.names []).lookup x = some c := by
 have q := PySem.W.cellsFrom_some sc.names n [] (.inl h)
 exact Option.isSome_iff_exists.mp q
theorem Mb {CX : CXT} {P : Program} {w : World} {K : PySem.W.Frag} {mg : Str → Option Value} {base : Heap} {N ps : List Str} {qual : Str} {scope : Scope} {f : Addr} {cd : Value} {A : Around} {outer : List Env} {s s1 : Shared} {H : Hp} {E : XK} {us : List Value} {vs : List V}
  (S : AN N ps scope) (hd : A.handled = none) (e0 : LY P w K mg base A outer s H) (hl : vs.length = ps.length) (r : AX vs us)
  (x : InCallC s s.heap.objs.size (bindL (envOfC qual scope s.heap.objs.size f cd).kindOf (ps.zip us) fun _ => none) (cellsFrom (s.heap.objs.size + 1) scope.names []) (bindC (envOfC qual scope s.heap.objs.size f cd).kindOf (ps.zip us) fun _ => none) s1) :
  Inv (Au CX P w K mg base N qual scope f cd A outer s H E) [] (start N vs) H s1 := by
 have hpl : ps.length ≤ N.length := by have := congrArg List.length S.pre; rw [List.length_take] at this; lia
 obtain ⟨h1, tk, rfl, hk⟩ := x.done
 have noA : ∀ b : Addr, b ∉ (Au CX P w K mg base N qual scope f cd A outer s H E).ex := fun b z => absurd (show b ∈ ([] : List Addr) from z) (by simp)
 refine ⟨⟨e0.mod, S.kind, rfl, rfl, Nat.le_refl _, fun y z c h1 h2 => ?_, fun y hy => ?_, fun y c _ h => ?_, fun _ => hd, Around.frames_deeper e0.frames, .inr ⟨rfl, rfl⟩, fun b z => absurd z (noA b), e0.bs, e0.bsz, fun b _ _ => noA b, fun b z => absurd z (noA b), e0.funs, e0.frf⟩,
  rfl, e0.bare, Un.kept hk, ⟨_, x.toInCall.ns, fun i y v h1 h2 h3 => ?_⟩, fun y c h => ⟨_, x.cell y c h⟩, e0.hok.fresh (Nat.le_refl _), fun y c h => ?_, fun p hp => absurd (show p ∈ ([] : List (Addr × Obj)) from hp) (by simp), e0.hok.kept hk, ?_⟩
 ·exact name_of_addr x.apart (PySem.mem_of_lookup h1) (PySem.mem_of_lookup h2)
 ·have hy : scope.names.lookup y = some .cell ∨ scope.names.lookup y = some .free := hy
  rcases hy with hy | hy
  ·exact J1 hy
  ·exact absurd rfl (S.nofree _ (PySem.mem_of_lookup hy))
 ·exact Nat.le_of_lt (x.above y c (PySem.mem_of_lookup h))
 ·have hi : i < vs.length := by
   unfold start at h2
   by_cases hi : i < vs.length
   ·exact hi
   ·rw [List.getElem?_append_right (by simpa using hi)] at h2
    rw [List.getElem?_replicate] at h2
    split at h2 <;> cases h2
  have ha : vs[i]? = some v := by
   unfold start at h2
   rw [List.getElem?_append_left (by simpa using hi), List.getElem?_map] at h2
   cases e : vs[i]? with
   | none => rw [e] at h2; cases h2
   | some a => rw [e] at h2; cases h2; rfl
  obtain ⟨u, hu, rv⟩ := r.get ha
  have hp : ps[i]? = some y := by
   rw [← S.pre, List.getElem?_take_of_lt (by lia)]; exact h1
  have ndP : ps.Nodup := by rw [← S.pre]; exact S.nd.sublist (List.take_sublist _ _)
  refine ⟨u, rv, ?_⟩
  rcases S.par y (List.mem_of_getElem? hp) with k | k
  ·exact .inl ⟨k, Ii ndP hp hu k⟩
  ·obtain ⟨c, e⟩ := J1 (n := s.heap.objs.size + 1) k
   refine .inr ⟨.inl k, c, e, ?_⟩
   have q := x.cell y c e
   rw [Iv ndP hp hu (by show scope.names.lookup y ≠ _; rw [k]; decide)] at q
   exact q
 ·exact e0.hok.fresh (Nat.le_of_lt (x.above y c (PySem.mem_of_lookup h)))
 ·unfold start
  show _ = N.length
  rw [List.length_append, List.length_map, List.length_replicate]
  lia
theorem Nh {CX : CXT} {P : Program} {w : World} {K : PySem.W.Frag} {mg : Str → Option Value} {base : Heap} {k : Nat} {f : Addr} {name qual : Str} {params : Arguments} {body : List Stmt} {scope : Scope} {dV kV doc pm cdv ct oc : Value} {an od : Option Addr}
  {osl : Array (Option Value)} {N ps : List Str} {sp : Sp} (lk : K.lookup f = some ⟨oc, od, .func (PySem.W.fnOf name qual params body scope dV kV doc pm an cdv ct), osl⟩) (hcd : PySem.W.codeIn K cdv qual = true) (S : AN N ps scope)
  (len : ∀ vs H Q E, sp vs H Q E → vs.length = ps.length)
  (hbody : ∀ (A : Around) (outer : List Env) (s : Shared) (H : Hp) (vs : List V) (Q : VK) (E : XK), BY k (A.deeper (envOfC qual scope s.heap.objs.size f cdv)) → sp vs H Q E →
   ∃ t, PSs (Au CX P w K mg base N qual scope f cdv A outer s H E) body t ∧ t { nx := fun _ H' => Q .non H', rt := Q } (start N vs) H) :
  Ag P w K mg base CX (k + 1) f (PySem.W.fnOf name qual params body scope dV kV doc pm an cdv ct) ps sp := by
 refine ⟨len, fun A outer s H args us vs Q E hr e0 hb r hsp => ?_⟩
 have hl := len _ _ _ _ hsp
 have KX : K.In s.heap := e0.mod.kin.keeps fun b o e => (e0.bs b o e).1
 have lim : s.heap.NoLimit := e0.mod.nolimit.keeps fun b o e => (e0.bs b o e).1
 have hkind : ∀ y ∈ ps.zip us, scope.names.lookup y.1 = some .local ∨ (scope.names.lookup y.1 = some .cell ∧ ((cellsFrom (s.heap.objs.size + 1) scope.names []).lookup y.1).isSome = true) := fun ⟨n, v⟩ hy => by
  rcases S.par n (List.of_mem_zip hy).1 with q | q
  ·exact .inl q
  ·exact .inr ⟨q, PySem.W.cellsFrom_some _ _ _ (.inl q)⟩
 refine codeAny_call_function hr.depth (KX _ _ lk) rfl S.co S.gen rfl (PySem.W.codeRec_of KX hcd) (hb _ _ _ _ ?_)
 refine wpAny_newFunctionEnv_cells S.kind hkind fun env he s1 x => ?_
 subst he
 refine ⟨lim.keeps x.toInCall.keep, codeAny_func ?_⟩
 obtain ⟨t, ht, hq⟩ := hbody A outer s H vs Q E (hr.deeper _) hsp
 have I : Inv (Au CX P w K mg base N qual scope f cdv A outer s H E) [] (start N vs) H s1 := Mb S hr.hd e0 hl r x
 refine wpAny_mono (ht [] s1 (start N vs) H _ I hq) (fun fl s' hs => ?_) fun e s' hs => hs
 have fin : ∀ {σ' : St} {H' : Hp} {v : V} {u : Value}, Inv (Au CX P w K mg base N qual scope f cdv A outer s H E) [] σ' H' s' → RelV v u → Q v H' → CE outer P w H s Q u s' :=
  fun {σ' H' v u} J rv q => ⟨v, H', J.os, J.bare, J.base, J.hok, rv, q⟩
 cases fl with
 | ret u =>
  obtain ⟨v, σ', H', J, rv, q⟩ := hs
  exact fin J rv q
 | next =>
  obtain ⟨σ', H', J, q⟩ := hs
  exact fin (v := V.non) (u := Value.none) J rfl q
 | brk =>
  obtain ⟨_, _, _, q⟩ := hs
  exact False.elim q
 | cont =>
  obtain ⟨_, _, _, q⟩ := hs
  exact False.elim q
section
variable {X : Cx} {x : Str} {p pos : Pos} {e : Expr} {es : List Expr} {t : TA} {id T : String} {r : List V → Hp → VK → Prop}
noncomputable def tCB (r : List V → Hp → VK → Prop) (t : TA) : TE := fun σ H Q => t σ H fun vs H1 => r vs H1 Q
theorem AQ (hc : BJ X (.builtin id) r) (hg : Gl X x) (hm : X.mg x = none) (hv : bootBuiltins x = some (.builtin id)) (ha : PA X (e :: es) t) (hn : x ≠ "__name__" := by decide) (hdb : (x == ("__debug__" : Str)) = false := by decide)
  (he : starEach (e :: es) X.env = (false, eval e X.env) :: starEach es X.env := by rfl) (hpl : (backTo pos (starEach es X.env)).any (·.1) = false := by rfl) : PE X (.Call (.Name x p) (e :: es) [] pos) (tCB r t) := by
 intro pins s σ H Q I h
 refine wpAny_Call_Name_kw (G6 I hg hm hv ?_ hn hdb)
 exact PyProof.Rows.callWith_builtin1 (thn (ha pos pins s σ H _ I h) fun us s1 ⟨vs, H1, I1, r1, q1⟩ => hc pins s1 σ H1 vs us Q I1 r1 q1) he hpl
theorem Af (hc : BJ X (.type T) r) (hg : Gl X x) (hm : X.mg x = none) (hv : bootBuiltins x = some (.type T)) (ha : PA X (e :: es) t) (hn : x ≠ "__name__" := by decide) (hdb : (x == ("__debug__" : Str)) = false := by decide)
  (he : starEach (e :: es) X.env = (false, eval e X.env) :: starEach es X.env := by rfl) (hpl : (backTo pos (starEach es X.env)).any (·.1) = false := by rfl) : PE X (.Call (.Name x p) (e :: es) [] pos) (tCB r t) := by
 intro pins s σ H Q I h
 refine wpAny_Call_Name_kw (G6 I hg hm hv ?_ hn hdb)
 exact PyProof.Rows.callWith_type1 (thn (ha pos pins s σ H _ I h) fun us s1 ⟨vs, H1, I1, r1, q1⟩ => hc pins s1 σ H1 vs us Q I1 r1 q1) he hpl
end
end L2
namespace HT
open PySem PyProof.Rows
noncomputable def lexLt : List Int → List Int → Bool
 | [], [] => false
 | [], _ :: _ => true
 | _ :: _, [] => false
 | x :: xs, y :: ys => if x = y then lexLt xs ys else decide (x < y)
theorem lexLt_cons (x y : Int) (xs ys : List Int) : lexLt (x :: xs) (y :: ys) = if x = y then lexLt xs ys else decide (x < y) := rfl
section
open PySem.SeqAt
open PySem.AutoSeq1 (wpAny_loadPart')
open PySem.MeetsSeq PySem.MeetsSeq2 PySem.MeetsSeq3
end
section
variable {prog : Program} {w : World} {A : Around} {E : Value → Shared → Prop} {s : Shared}
noncomputable def sIx (n d : Nat) : Option Int → Nat
 | none => d
 | some v => if v < 0 then (v + (n : Int)).toNat else min v.toNat n
theorem sIx_none (n d : Nat) : sIx n d none = d := rfl
theorem sIx_nat (n d k : Nat) : sIx n d (some (k : Int)) = min k n := by
 show (if (k : Int) < 0 then ((k : Int) + (n : Int)).toNat else min (k : Int).toNat n) = min k n
 rw [if_neg (by lia), Int.toNat_natCast]
theorem sIx_le (n d : Nat) (hd : d ≤ n) (o : Option Int) : sIx n d o ≤ n := by
 cases o with
 | none => exact hd
 | some v =>
  show (if v < 0 then (v + (n : Int)).toNat else min v.toNat n) ≤ n
  by_cases hv : v < 0
  ·rw [if_pos hv]; lia
  ·rw [if_neg hv]; exact Nat.min_le_right _ _
theorem clip_eq (v : Int) (n d : Nat) : (if v < 0 then max (v + (n : Int)) 0 else min v (n : Int)) = ((sIx n d (some v) : Nat) : Int) := by
 show (if v < 0 then max (v + (n : Int)) 0 else min v (n : Int)) = (((if v < 0 then (v + (n : Int)).toNat else min v.toNat n) : Nat) : Int)
 by_cases hv : v < 0
 ·simp only [if_pos hv]; lia
 ·simp only [if_neg hv]; lia
theorem adjust_gen (lo hi : Option Int) (n : Nat) : Builtin.Slice.sliceAdjust lo hi 1 (n : Int) = (((sIx n 0 lo : Nat) : Int), ((sIx n n hi : Nat) : Int)) := by
 have h1 : ¬ ((1 : Int) < 0) := by lia
 unfold Builtin.Slice.sliceAdjust
 simp only [h1, if_false]
 refine Prod.ext ?_ ?_
 ·cases lo with
  | none => rfl
  | some v => exact clip_eq v n 0
 ·cases hi with
  | none => rfl
  | some v => exact clip_eq v n n
theorem places_gen (i j : Nat) : Builtin.Slice.slicePlaces (i : Int) (j : Int) 1 = j - i := by
 unfold Builtin.Slice.slicePlaces
 have h1 : (1 : Int) > 0 := by lia
 simp only [h1, if_true, Int.ediv_one]
 split <;> lia
theorem slicePart_ {v : Value} {o : Option Int} {Q : Option Int → Shared → Prop} (p : IsPart v o) (h : Q o s) : wpAny (model prog w) A (Builtin.Slice.slicePartIndex v) Q E s := by
 cases p with
 | none => exact slicePart_none h
 | int i t => exact slicePart_int h
theorem sliceApplied_gen {sl : Addr} {vl vu : Value} {lo hi : Option Int} {n : Nat} {Q : Int × Int × Nat → Shared → Prop} (hs : s.heap.IsSliceOf sl vl vu .none) (pl : IsPart vl lo) (pu : IsPart vu hi)
  (h : Q (((sIx n 0 lo : Nat) : Int), 1, sIx n n hi - sIx n 0 lo) s) : wpAny (model prog w) A (Builtin.Slice.sliceApplied (.ref sl) (pure (n : Int))) Q E s := by
 obtain ⟨os, hos, hcs, hds⟩ := id hs
 unfold Builtin.Slice.sliceApplied Builtin.Slice.sliceFields
 refine wpAny_bind (wpAny_bind (wpAny_field hos hds (x := vl) rfl (wpAny_bind (wpAny_field hos hds (x := vu) rfl (wpAny_bind (wpAny_field hos hds (x := .none) rfl (wpAny_pure ?_)))))))
 refine wpAny_bind (slicePart_none ?_)
 show wpAny _ _ (if ((1 : Int) == 0) = true then _ else _) _ _ s
 rw [if_neg (by decide)]
 refine wpAny_bind (slicePart_ pl (wpAny_bind (slicePart_ pu (wpAny_bind (wpAny_pure ?_)))))
 show wpAny _ _ (match Builtin.Slice.sliceAdjust lo hi 1 (n : Int) with | (lo, hi) => pure (lo, (1 : Int), Builtin.Slice.slicePlaces lo hi 1)) _ _ s
 rw [adjust_gen lo hi n]
 show wpAny _ _ (pure (((sIx n 0 lo : Nat) : Int), (1 : Int), Builtin.Slice.slicePlaces ((sIx n 0 lo : Nat) : Int) ((sIx n n hi : Nat) : Int) 1)) _ _ s
 rw [places_gen]
 exact wpAny_pure h
theorem pick_gen (xs : Array Value) (i k : Nat) : ((List.range k).filterMap fun (m : Nat) => xs[((i : Int) + (m : Int) * 1).toNat]?).toArray = ((xs.toList.drop i).take k).toArray := by
 have e : (fun (m : Nat) => xs[((i : Int) + (m : Int) * 1).toNat]?) = fun m => xs[i + m]? := by
  funext m
  have : ((i : Int) + (m : Int) * 1).toNat = i + m := by lia
  rw [this]
 rw [e]
 have := pick_run xs i k
 rw [List.filterMap_map] at this
 have e2 : ((fun x => xs[x]?) ∘ fun x => i + x) = fun m => xs[i + m]? := rfl
 rw [e2] at this
 rw [this]
theorem getItem_tuple_cut {t sl : Addr} {items : Array Value} {vl vu : Value} {lo hi : Option Int} {Q : Value → Shared → Prop} (ht : IsTup s.heap t items) (hs : s.heap.IsSliceOf sl vl vu .none) (pl : IsPart vl lo) (pu : IsPart vu hi)
  (hw : ¬ (sIx items.size 0 lo = 0 ∧ sIx items.size items.size hi = items.size))
  (h : Q (.ref s.heap.objs.size) { s with heap := s.heap.push { cls := .type "tuple", data := .seq ((items.toList.drop (sIx items.size 0 lo)).take (sIx items.size items.size hi - sIx items.size 0 lo)).toArray } })
  (hsz : items.size ≤ sizeLine) : wpAny (model prog w) A (getItem (.ref t) (.ref sl)) Q E s := by
 have htake : sizeOk (.seq ((items.toList.drop (sIx items.size 0 lo)).take (sIx items.size items.size hi - sIx items.size 0 lo)).toArray) := by
  show ((items.toList.drop (sIx items.size 0 lo)).take (sIx items.size items.size hi - sIx items.size 0 lo)).toArray.size ≤ sizeLine
  rw [List.size_toArray, List.length_take, List.length_drop, Array.length_toList]
  lia
 have hj : sIx items.size items.size hi ≤ items.size := sIx_le _ _ (Nat.le_refl _) hi
 obtain ⟨os, hos, hcs, hds⟩ := id hs
 have hTs : s.TypeIs (.ref sl) "slice" := ⟨os, hos, hcs⟩
 unfold getItem
 try with_reducible refine wpAny_holding ?_
 first | refine wpAny_bind (wpAny_pure ?_) | skip
 refine wpAny_bind (wpAny_sequenceKey ht.typeIs (by decide) ?_)
 refine wpAny_bind (wpAny_callSpecial?_slot (name := Str.ofString "__getitem__") ht.typeIs PyProof.Rows.slot_tuple_getitem
  (wpAny_call_entry PyProof.Rows.slot_tuple_getitem ht.typeIs entry_tuple_getitem ?_ (args_tuple_getitem _ _)))
 show wpAny _ _ (Builtin.Tuple.tupleItemsOf (.ref t) >>= _) _ _ s
 refine wpAny_bind (tupleItemsOf_ ht ?_)
 refine wpAny_bind (wpAny_typeOf hTs ?_)
 rw [if_pos (by decide)]
 refine wpAny_bind (sliceApplied_gen hs pl pu ?_)
 have hno : ¬ ((((sIx items.size 0 lo : Nat) : Int) == 0 && (1 : Int) == 1 && (sIx items.size items.size hi - sIx items.size 0 lo) == items.size) = true) := by
  intro q
  rw [Bool.and_eq_true, Bool.and_eq_true] at q
  have q1 : ((sIx items.size 0 lo : Nat) : Int) = 0 := eq_of_beq q.1.1
  have q2 : sIx items.size items.size hi - sIx items.size 0 lo = items.size := eq_of_beq q.2
  exact hw ⟨by lia, by lia⟩
 show wpAny _ _ (if (((sIx items.size 0 lo : Nat) : Int) == 0 && (1 : Int) == 1 && (sIx items.size items.size hi - sIx items.size 0 lo) == items.size) = true then _ else _) _ _ s
 rw [if_neg hno, pick_gen]
 first
  | exact wpAny_bind (m := Builtin.Tuple.tupleExact _) (wpAny_newObj_type (wpAny_pure ⟨_, rfl, wpAny_pure h⟩) htake)
  | exact wpAny_bind (m := Builtin.Tuple.tupleExact _) (wpAny_newObj_type (wpAny_bind (wpAny_pure (wpAny_pure ⟨_, rfl, wpAny_pure h⟩))) htake)
  | exact wpAny_bind (wpAny_bind (m := Builtin.Tuple.tupleExact _) (wpAny_newObj_type (wpAny_pure (wpAny_pure ⟨_, rfl, wpAny_pure h⟩)) htake))
  | exact wpAny_bind (wpAny_bind (m := Builtin.Tuple.tupleExact _) (wpAny_newObj_type (wpAny_pure ⟨_, rfl, wpAny_pure h⟩) htake))
end
end HT
namespace L2
open PySem PySem.Spec PyProof.Rows
noncomputable abbrev TO := St → Hp → (Option Int → Hp → Prop) → Prop
noncomputable def PO (X : Cx) (e : Option Expr) (t : TO) : Prop :=
 ∀ (pins : List (Addr × Obj)) (s : Shared) (σ : St) (H : Hp) (Q : Option Int → Hp → Prop), Inv X pins σ H s → t σ H Q →
  wpAny (model X.prog X.w) X.A (evalPart e X.env) (fun u s' => ∃ o H', Inv X pins σ H' s' ∧ IsPart u o ∧ Q o H') X.xe s
noncomputable def Bn : TO := fun _ H Q => Q none H
noncomputable def EI (t : TE) : TO := fun σ H Q => t σ H fun x H1 => ∃ i, x = .int i ∧ Q (some i) H1
section
variable {X : Cx} {e : Expr} {te : TE} {lo hi : Option Expr} {tl th : TO} {pos p2 : Pos}
theorem GZ : PO X none Bn := by
 intro pins s σ H Q I h
 rw [evalPart_none]
 exact wpAny_pure ⟨none, H, I, .none, h⟩
theorem ED (h : PE X e te) : PO X (some e) (EI te) := by
 intro pins s σ H Q I hw
 rw [evalPart_some]
 refine thn (h pins s σ H _ I hw) fun u s1 zq => ?_
 obtain ⟨x, H1, I1, r1, q1⟩ := zq
 obtain ⟨i, rfl, q⟩ := q1
 obtain ⟨t, rfl⟩ := r1
 exact ⟨some i, H1, I1, .int i t, q⟩
noncomputable def SlR (X : Cx) (r : V → Option Int → Option Int → Hp → VK → Prop) : Prop :=
 ∀ (pins : List (Addr × Obj)) (s : Shared) (σ : St) (H : Hp) (x : V) (v vl vu : Value) (lo hi : Option Int) (sl : Addr) (Q : VK), Inv X pins σ H s → RelV x v → s.heap.IsSliceOf sl vl vu .none → IsPart vl lo → IsPart vu hi → r x lo hi H Q →
  ∃ T id, typeLookup (.type T) "__getitem__" = pure (some (.builtin id)) ∧ s.TypeIs v T ∧ wpAny (model X.prog X.w) X.A (getItem v (.ref sl)) (EP X pins σ Q) X.xe s
noncomputable def tSl (r : V → Option Int → Option Int → Hp → VK → Prop) (te : TE) (tl th : TO) : TE := fun σ H Q => te σ H fun x H1 => tl σ H1 fun l H2 => th σ H2 fun u H3 => r x l u H3 Q
theorem Du {r : V → Option Int → Option Int → Hp → VK → Prop} (hr : SlR X r) (he : PE X e te) (hl : PO X lo tl) (hu : PO X hi th) : PE X (.Subscript e (.Slice lo hi none p2) pos) (tSl r te tl th) := by
 intro pins s σ H Q I h
 refine Subscript_ (thn (he pins s σ H _ I h) fun v s1 zq => ?_)
 obtain ⟨x, H1, I1, r1, q1⟩ := zq
 refine wpAny_Slice (thn (hl pins s1 σ H1 _ I1 q1) fun vl s2 ⟨l, H2, I2, pl, q2⟩ => thn (hu pins s2 σ H2 _ I2 q2) fun vu s3 zq => ?_)
 obtain ⟨u, H3, I3, pu, q3⟩ := zq
 rw [evalPart_none]
 refine wpAny_pure ?_
 have I4 : Inv X pins σ H3 { s3 with heap := s3.heap.push { cls := .type "slice", data := .fields #[vl, vu, .none] } } := I3.kept (t' := s3.toks) fun b ob q => Heap.get?_push_of_some _ q
 obtain ⟨T, id, hT, ht, hg⟩ := hr pins { s3 with heap := s3.heap.push { cls := .type "slice", data := .fields #[vl, vu, .none] } } σ H3 x v vl vu l u s3.heap.objs.size Q I4 r1 (Heap.IsSliceOf.new ..) pl pu q3
 show wpAny (model X.prog X.w) X.A (subscriptTail e (.Slice lo hi none p2) v (.ref s3.heap.objs.size)) (EP X pins σ Q) X.xe { s3 with heap := s3.heap.push { cls := .type "slice", data := .fields #[vl, vu, .none] } }
 exact tail_any (ops := [.ref s3.heap.objs.size, v]) ht hT hg (by with_unfolding_all rfl)
noncomputable def GO (xs : List V) (lo hi : Option Int) : List V := (xs.drop (HT.sIx xs.length 0 lo)).take (HT.sIx xs.length xs.length hi - HT.sIx xs.length 0 lo)
theorem GG (xs : List V) (lo hi : Option Int) : (GO xs lo hi).length ≤ xs.length := by
 unfold GO
 rw [List.length_take, List.length_drop]
 lia
noncomputable def rSlT (K : PySem.W.Frag) : V → Option Int → Option Int → Hp → VK → Prop := fun x lo hi H Q => ∃ a xs, x = .ref a ∧ SqT K H a xs ∧
 ¬ (HT.sIx xs.length 0 lo = 0 ∧ HT.sIx xs.length xs.length hi = xs.length) ∧ ∀ p, H p = none → Q (.ref p) (upd H p (.tup (GO xs lo hi)))
theorem M4 : SlR X (rSlT X.K) := by
 intro pins s σ H x v vl vu lo hi sl Q I rx hs pl pu h
 obtain ⟨a, xs, rfl, hx, hw, q⟩ := h
 cases rx
 obtain ⟨its, r, ht, hz⟩ := I.tuple hx
 have hlen : its.toArray.size = xs.length := by rw [List.size_toArray]; exact r.length.symm
 refine ⟨"tuple", _, PyProof.Rows.slot_tuple_getitem.lookup, ht.typeIs, ?_⟩
 refine HT.getItem_tuple_cut ht hs pl pu (by rw [hlen]; exact hw) ?_ (by rw [hlen]; exact hz)
 rw [hlen]
 refine ⟨.ref s.heap.objs.size, _, I.laid (t' := s.toks) (o := .tup (GO xs lo hi)) (fun b ob q => Heap.get?_push_of_some _ q) (Nat.le_refl _) ?_, rfl, q _ (I.hok.fresh (Nat.le_refl _))⟩
 exact ⟨Nat.le_trans (GG xs lo hi) hz, _, (r.drop (HT.sIx xs.length 0 lo)).take (HT.sIx xs.length xs.length hi - HT.sIx xs.length 0 lo), IsTup.new _ _⟩
end
noncomputable def ixN (n : Nat) (i : Int) : Option Nat := if 0 ≤ i then (if i < n then some i.toNat else none) else if -(n : Int) ≤ i then some (i + n).toNat else none
noncomputable def atI {α : Type} (xs : List α) (i : Int) : Option α := (ixN xs.length i).bind fun j => xs[j]?
theorem O6 {n : Nat} {i : Int} {j : Nat} (h : ixN n i = some j) : seqIndex? i n = some j ∧ j < n ∧ -(n : Int) ≤ i ∧ i < n := by
 unfold ixN at h
 by_cases h0 : 0 ≤ i
 ·rw [if_pos h0] at h
  by_cases h1 : i < n
  ·rw [if_pos h1] at h
   have e : i.toNat = j := Option.some.inj h
   exact ⟨by rw [seqIndex_of h0 h1, e], by lia, by lia, h1⟩
  ·rw [if_neg h1] at h; cases h
 ·rw [if_neg h0] at h
  by_cases h1 : -(n : Int) ≤ i
  ·rw [if_pos h1] at h
   have e : (i + n).toNat = j := Option.some.inj h
   exact ⟨by rw [seqIndex_neg (by lia) h1, e], by lia, h1, by lia⟩
  ·rw [if_neg h1] at h; cases h
theorem Ly {α : Type} {xs : List α} {i : Int} {v : α} (h : atI xs i = some v) : ∃ j, seqIndex? i xs.length = some j ∧ xs[j]? = some v ∧ j < xs.length ∧ -(xs.length : Int) ≤ i ∧ i < xs.length := by
 unfold atI at h
 cases e : ixN xs.length i with
 | none => rw [e] at h; cases h
 | some j =>
  rw [e] at h
  obtain ⟨h1, h2, h3, h4⟩ := O6 e
  exact ⟨j, h1, h, h2, h3, h4⟩
theorem Cb {α : Type} {xs : List α} {j : Nat} {v : α} (h : xs[j]? = some v) : atI xs (j : Int) = some v := by
 have hj : j < xs.length := (List.getElem?_eq_some_iff.mp h).1
 have e : ixN xs.length (j : Int) = some j := by
  unfold ixN
  rw [if_pos (by lia), if_pos (by lia)]; simp
 unfold atI; rw [e]; exact h
noncomputable def Lj (b : Expr) : Prop := ∀ o i, subscripted b false o i = operate [o, i] (getItem o i)
noncomputable def IxR (X : Cx) (r : R2) : Prop :=
 ∀ (value slice : Expr) (pins : List (Addr × Obj)) (s : Shared) (σ : St) (H : Hp) (x y : V) (v u : Value) (Q : VK), Inv X pins σ H s → RelV x v → RelV y u → r x y H Q →
  subscripted slice false v u = operate [v, u] (getItem v u) → wpAny (model X.prog X.w) X.A (subscriptTail value slice v u) (EP X pins σ Q) X.xe s
noncomputable def MtR (X : Cx) (id : String) (r : V → List V → Hp → VK → Prop) : Prop :=
 ∀ (pins : List (Addr × Obj)) (s : Shared) (σ : St) (H : Hp) (x : V) (xs : List V) (v : Value) (us : List Value) (Q : VK), Inv X pins σ H s → RelV x v → AX xs us → r x xs H Q →
  wpAny (model X.prog X.w) X.A (call (.builtin id) (v :: us)) (EP X pins σ Q) X.xe s
section
variable {X : Cx} {a b : Expr} {ta tb : TE} {pos : Pos}
theorem NY {r : R2} (hr : IxR X r) (ha : PE X a ta) (hb : PE X b tb) (hs : Lj b) : PE X (.Subscript a b pos) (tOp r ta tb) := by
 intro pins s σ H Q I h
 exact Subscript_ (UH ha hb I h fun v u s2 x y H2 I2 rx ry q => hr a b pins s2 σ H2 x y v u Q I2 rx ry q (hs _ _))
noncomputable def IK (K : PySem.W.Frag) : R2 := fun x y H Q => ∃ p xs i v, x = .ref p ∧ y = .int i ∧ SqL K H p xs ∧ atI xs i = some v ∧ Q v H
noncomputable def HY (K : PySem.W.Frag) : R2 := fun x y H Q => ∃ p xs i v, x = .ref p ∧ y = .int i ∧ SqT K H p xs ∧ atI xs i = some v ∧ Q v H
theorem AK : IxR X (IK X.K) := by
 intro value slice pins s σ H x y v u Q I rx ry h hs
 obtain ⟨p, xs, i, z, rfl, rfl, hq, he, q⟩ := h
 cases rx
 obtain ⟨t, rfl⟩ := ry
 obtain ⟨its, r, pl, hz⟩ := I.list hq
 obtain ⟨j, h1, h2, h3, h4, h5⟩ := Ly he
 obtain ⟨w, ew, rw'⟩ := r.get h2
 have hl := r.length
 have hn := Jq
 have fin : EP X pins σ Q w s := ⟨z, H, I, rw', q⟩
 by_cases h0 : 0 ≤ i
 ·have hj : i.toNat = j := by
   rw [seqIndex_of h0 h5] at h1
   exact Option.some.inj h1
  exact item_listR pl.isList h0 (by lia) (by rw [hj]; simpa using ew) fin hs
 ·have hj : (i + (its.toArray.size : Int)).toNat = j := by
   rw [seqIndex_neg (by lia) h4] at h1
   rw [List.size_toArray, ← hl]
   exact Option.some.inj h1
  exact subscriptTail_builtinR (x := w) pl.isList.typeIs slot_list_getitem.lookup
   (wpAny_getItem_list_neg (Q := fun r s' => r = w ∧ EP X pins σ Q r s') pl.isList (by lia) (by rw [List.size_toArray] <;> lia) (by lia) (by rw [hj]; simpa using ew) ⟨rfl, fin⟩) hs
theorem BA : IxR X (HY X.K) := by
 intro value slice pins s σ H x y v u Q I rx ry h hs
 obtain ⟨p, xs, i, z, rfl, rfl, hq, he, q⟩ := h
 cases rx
 obtain ⟨t, rfl⟩ := ry
 obtain ⟨its, r, pl, hz⟩ := I.tuple hq
 obtain ⟨j, h1, h2, h3, h4, h5⟩ := Ly he
 obtain ⟨w, ew, rw'⟩ := r.get h2
 have hl := r.length
 have hn := Jq
 have fin : EP X pins σ Q w s := ⟨z, H, I, rw', q⟩
 exact subscriptTail_builtinR (x := w) pl.typeIs slot_tuple_getitem.lookup
  (getItem_tuple (j := j) (Q := fun r s' => r = w ∧ EP X pins σ Q r s') pl (by lia) (by lia) (by rw [List.size_toArray, ← hl]; exact h1) (by simpa using ew) ⟨rfl, fin⟩) hs
noncomputable def Ey : V → V → V → Hp → (Hp → Prop) → Prop := fun o i v H Q => ∃ p xs k j, o = .ref p ∧ i = .int k ∧ H p = some (.lst xs) ∧ ixN xs.length k = some j ∧ Q (upd H p (.lst (xs.set j v)))
theorem JL (lo hi : Option Int) (n : Nat) : (sliceBounds lo hi none n).1 = ((HT.sIx n 0 lo : Nat) : Int) ∧ (sliceBounds lo hi none n).2.1 = ((HT.sIx n n hi : Nat) : Int) ∧ (sliceBounds lo hi none n).2.2 = 1 := by
 refine ⟨?_, ?_, rfl⟩
 ·cases lo with
  | none => simp [sliceBounds, HT.sIx]
  | some i =>
   simp only [sliceBounds, HT.sIx, Option.getD_none, show (1 : Int) > 0 by decide, if_true]
   by_cases h : i < 0
   ·simp only [h, if_true] <;> lia
   ·simp only [h, if_false] <;> lia
 ·cases hi with
  | none => simp [sliceBounds, HT.sIx]
  | some i =>
   simp only [sliceBounds, HT.sIx, Option.getD_none, show (1 : Int) > 0 by decide, if_true]
   by_cases h : i < 0
   ·simp only [h, if_true] <;> lia
   ·simp only [h, if_false] <;> lia
theorem IG (its : List Value) (lo hi : Option Int) : slicePick its.toArray lo hi none = ((its.drop (HT.sIx its.length 0 lo)).take (HT.sIx its.length its.length hi - HT.sIx its.length 0 lo)).toArray := by
 obtain ⟨h1, h2, h3⟩ := JL lo hi its.toArray.size
 unfold slicePick
 rw [h1, h2, h3]
 simp only [sliceRange_one, pick_run, List.size_toArray] <;> rfl
noncomputable def rSlL (K : PySem.W.Frag) : V → Option Int → Option Int → Hp → VK → Prop := fun x lo hi H Q => ∃ a xs, x = .ref a ∧ SqL K H a xs ∧ ∀ p, H p = none → Q (.ref p) (upd H p (.lst (GO xs lo hi)))
theorem ON : SlR X (rSlL X.K) := by
 intro pins s σ H x v vl vu lo hi sl Q I rx hs pl pu h
 obtain ⟨a, xs, rfl, hx, q⟩ := h
 cases rx
 obtain ⟨its, r, ht, hz⟩ := I.list hx
 have hlen := r.length
 refine ⟨"list", _, slot_list_getitem.lookup, ht.isList.typeIs, ?_⟩
 refine wpAny_getItem_list_slice ht.isList hs pl pu .none (by simp) ?_ (by rw [List.size_toArray] <;> lia)
 rw [IG, ← hlen]
 refine ⟨.ref s.heap.objs.size, _, I.laid (t' := s.toks) (o := .lst (GO xs lo hi)) (fun b ob q => Heap.get?_push_of_some _ q) (Nat.le_refl _) ?_, rfl, q _ (I.hok.fresh (Nat.le_refl _))⟩
 exact ⟨Nat.le_trans (GG xs lo hi) hz, _, 0, (r.drop (HT.sIx xs.length 0 lo)).take (HT.sIx xs.length xs.length hi - HT.sIx xs.length 0 lo), Heap.get?_push_size _ rfl⟩
noncomputable def E9 : V → Bool
 | .non => true
 | .bl _ => true
 | .int _ => true
 | .str _ => true
 | _ => false
noncomputable def eqV : V → V → Bool
 | .non, .non => true
 | .bl a, .bl b => a == b
 | .bl a, .int b => (if a then 1 else 0) == b
 | .int a, .bl b => a == (if b then 1 else 0)
 | .int a, .int b => a == b
 | .str a, .str b => a == b
 | _, _ => false
theorem Qd {A : Around} {s : Shared} {y x : V} {u v : Value} (ry : RelV y u) (rx : RelV x v) (fy : E9 y = true) (fx : E9 x = true) : SeqAt.EqAt A s u v (eqV y x) := by
 cases y with
 | non =>
  cases ry
  cases x with
  | non => cases rx; exact SeqAt.EqAt.same _
  | bl b => cases rx; exact SeqAt.EqAt.none_bool b
  | int b => obtain ⟨t, rfl⟩ := rx; exact SeqAt.EqAt.none_int b t
  | str b => obtain ⟨t, rfl⟩ := rx; exact SeqAt.EqAt.none_str b t
  | _ => exact absurd (show false = true from fx) Bool.false_ne_true
 | bl a =>
  cases ry
  cases x with
  | non => cases rx; exact SeqAt.EqAt.bool_none a
  | bl b => cases rx; exact SeqAt.EqAt.bool_bool a b
  | int b => obtain ⟨t, rfl⟩ := rx; exact SeqAt.EqAt.bool_int a b t
  | str b => obtain ⟨t, rfl⟩ := rx; exact SeqAt.EqAt.bool_str a b t
  | _ => exact absurd (show false = true from fx) Bool.false_ne_true
 | int a =>
  obtain ⟨t', rfl⟩ := ry
  cases x with
  | non => cases rx; exact SeqAt.EqAt.int_none a t'
  | bl b => cases rx; exact SeqAt.EqAt.int_bool a t' b
  | int b => obtain ⟨t, rfl⟩ := rx; exact SeqAt.EqAt.int_int a t' b t
  | str b => obtain ⟨t, rfl⟩ := rx; exact SeqAt.EqAt.int_str a t' b t
  | _ => exact absurd (show false = true from fx) Bool.false_ne_true
 | str a =>
  obtain ⟨t', rfl⟩ := ry
  cases x with
  | non => cases rx; exact SeqAt.EqAt.str_none a t'
  | bl b => cases rx; exact SeqAt.EqAt.str_bool a t' b
  | int b => obtain ⟨t, rfl⟩ := rx; exact SeqAt.EqAt.str_int a t' b t
  | str b => obtain ⟨t, rfl⟩ := rx; exact SeqAt.EqAt.str_str a t' b t
  | _ => exact absurd (show false = true from fx) Bool.false_ne_true
 | _ => exact absurd (show false = true from fy) Bool.false_ne_true
noncomputable def eqU (x : V) (u : Value) : Bool := match u with
 | .none => eqV .non x
 | .bool b => eqV (.bl b) x
 | .int i _ => eqV (.int i) x
 | .str z _ => eqV (.str z) x
 | _ => false
theorem M7 {x y : V} {u : Value} (r : RelV y u) (f : E9 y = true) : eqU x u = eqV y x := by
 cases y with
 | non => cases r; rfl
 | bl b => cases r; rfl
 | int i => obtain ⟨t, rfl⟩ := r; rfl
 | str z => obtain ⟨t, rfl⟩ := r; rfl
 | _ => exact absurd (show false = true from f) Bool.false_ne_true
theorem JA {x : V} : ∀ {xs : List V} {us : List Value}, AX xs us → xs.all E9 = true → us.any (eqU x) = xs.any fun y => eqV y x
 | _, _, .nil, _ => rfl
 | y :: xs, u :: us, .cons r t, f => by
  rw [List.all_cons, Bool.and_eq_true] at f
  rw [List.any_cons, List.any_cons, M7 r f.1, JA t f.2]
theorem G1 {A : Around} {s : Shared} {x : V} {v : Value} (rx : RelV x v) (fx : E9 x = true) : ∀ {xs : List V} {us : List Value}, AX xs us → xs.all E9 = true → ∀ u ∈ us, SeqAt.EqAt A s u v (eqU x u)
 | _, _, .nil, _ => fun u hu => by cases hu
 | y :: xs, u :: us, .cons r t, f => fun u' hu => by
  rw [List.all_cons, Bool.and_eq_true] at f
  rcases List.mem_cons.mp hu with rfl | hu
  ·rw [M7 r f.1]; exact Qd r rx f.1 fx
  ·exact G1 rx fx t f.2 u' hu
noncomputable def inV (x : V) (xs : List V) : Bool := xs.any fun y => eqV y x
noncomputable def rIn (K : PySem.W.Frag) (neg : Bool) : R2 := fun x y H Q => ∃ p xs, y = .ref p ∧ (SqL K H p xs ∨ SqT K H p xs) ∧ E9 x = true ∧ xs.all E9 = true ∧ Q (.bl (if neg then !inV x xs else inV x xs)) H
theorem Fe : OpR X (compareOp .In) (rIn X.K false) := by
 intro pins s σ H x y v u Q I rx ry h
 obtain ⟨p, xs, rfl, hq, fx, fs, q⟩ := h
 cases ry
 rcases hq with hq | hq
 ·obtain ⟨its, r, pl, hz⟩ := I.list hq
  refine SeqAt.in_listAt (eqU x) pl.isList (fun w hw => G1 rx fx r fs w (by simpa using hw)) ⟨.bl _, H, I, rfl, ?_⟩
  rw [show its.toArray.any (eqU x) = its.any (eqU x) by simp, JA r fs]
  exact q
 ·obtain ⟨its, r, pl, hz⟩ := I.tuple hq
  refine SeqAt.in_tupleAt (eqU x) pl (fun w hw => G1 rx fx r fs w (by simpa using hw)) ⟨.bl _, H, I, rfl, ?_⟩
  rw [show its.toArray.any (eqU x) = its.any (eqU x) by simp, JA r fs]
  exact q
theorem AR : BJ X (.builtin "len") (fun xs H Q => ∃ p ys, xs = [.ref p] ∧ (SqL X.K H p ys ∨ SqT X.K H p ys) ∧ Q (.int ys.length) H) := by
 intro pins s σ H xs us Q I r h
 obtain ⟨p, ys, rfl, hq, q⟩ := h
 obtain ⟨u, rfl, rx⟩ := vals1 r
 cases rx
 have hn := Jq
 rcases hq with hq | hq
 ·obtain ⟨its, r', pl, hz⟩ := I.list hq
  have hlen := r'.length
  exact Calls.call_len_list pl.isList (by simp only [List.size_toArray] <;> lia) ⟨.int ys.length, H, I.tok _, ⟨s.toks + 1, by rw [List.size_toArray, hlen]⟩, q⟩
 ·obtain ⟨its, r', pl, hz⟩ := I.tuple hq
  have hlen := r'.length
  exact len_tuple pl (by simp only [List.size_toArray] <;> lia) ⟨.int ys.length, H, I.tok _, ⟨s.toks + 1, by rw [List.size_toArray, hlen]⟩, q⟩
theorem FV : BJ X (.builtin "len") (fun xs H Q => ∃ z, xs = [.str z] ∧ z.length ≤ sizeLine ∧ Q (.int z.length) H) := by
 intro pins s σ H xs us Q I r h
 obtain ⟨z, rfl, hz, q⟩ := h
 obtain ⟨u, rfl, t, rfl⟩ := vals1 r
 have hn := Jq
 exact len_str (by lia) ⟨.int z.length, H, I.tok _, ⟨_, rfl⟩, q⟩
theorem Jk : BJ X (.type "list") (fun xs H Q => ∃ p ys, xs = [.ref p] ∧ (SqL X.K H p ys ∨ SqT X.K H p ys) ∧ ∀ l, H l = none → Q (.ref l) (upd H l (.lst ys))) := by
 intro pins s σ H xs us Q I r h
 obtain ⟨p, ys, rfl, hq, q⟩ := h
 obtain ⟨u, rfl, rx⟩ := vals1 r
 cases rx
 have fin : ∀ (its : List Value), AX ys its → ys.length ≤ sizeLine → ∀ (h' : Heap) (c' : Nat), (∀ b o', s.heap.get? b = some o' → h'.get? b = some o') →
   h'.get? s.heap.objs.size = some { cls := .type "list", dict := none, data := .seq its.toArray c', slots := #[] } → EP X pins σ Q (.ref s.heap.objs.size) { s with heap := h' } := fun its r' hz h' c' kp e =>
  ⟨.ref s.heap.objs.size, _, I.laid (t' := s.toks) kp (Nat.le_refl _) (show A5 X.prog X.w _ h' _ (.lst ys) from ⟨hz, its, c', r', e⟩), rfl, q _ (I.hok.fresh (Nat.le_refl _))⟩
 rcases hq with hq | hq
 ·obtain ⟨its, r', pl, hz⟩ := I.list hq
  have hlen := r'.length
  obtain ⟨o, ho, hc, n, hd⟩ := pl.isList
  exact call_list_seq p (.inl rfl) ho hc hd (fun h' c' kp e => fin its r' hz h' c' kp e) (by simp only [List.size_toArray] <;> lia)
 ·obtain ⟨its, r', pl, hz⟩ := I.tuple hq
  have hlen := r'.length
  obtain ⟨o, ho, hc, n, hd⟩ := pl
  exact call_list_seq p (.inr rfl) ho hc hd (fun h' c' kp e => fin its r' hz h' c' kp e) (by simp only [List.size_toArray] <;> lia)
noncomputable def tyV (K : PySem.W.Frag) (T : String) (x : V) (H : Hp) : Prop := match x with
 | .str _ => T = "str"
 | .int _ => T = "int"
 | .ref p => (T = "list" ∧ ∃ xs, SqL K H p xs) ∨ (T = "tuple" ∧ ∃ o, K.lookup p = some o ∧ o.cls = .type "tuple" ∧ o.dict = none) ∨
   (T = "dict" ∧ ((∃ kvs, H p = some (.dK kvs)) ∨ ∃ kvs, H p = some (.dT kvs))) ∨ (T = "set" ∧ ∃ S n, H p = some (.set S n))
 | _ => False
theorem NJ {pins : List (Addr × Obj)} {σ : St} {H : Hp} {s : Shared} {T : String} {x : V} {v : Value} (I : Inv X pins σ H s) (r : RelV x v) (ty : tyV X.K T x H) :
  s.TypeIs v T ∧ ∀ a, v = .ref a → ∃ ob, s.heap.get? a = some ob ∧ ob.dict = none := by
 cases x with
 | str z =>
  obtain ⟨t, rfl⟩ := r
  cases (show T = "str" from ty)
  exact ⟨typeIs_str s z t, fun _ e => nomatch e⟩
 | int i =>
  obtain ⟨t, rfl⟩ := r
  cases (show T = "int" from ty)
  exact ⟨typeIs_int s i t, fun _ e => nomatch e⟩
 | ref p =>
  cases r
  rcases ty with ⟨rfl, xs, hq⟩ | ⟨rfl, o, hk, hc, hd⟩ | ⟨rfl, hk⟩ | ⟨rfl, S, n, hk⟩
  ·obtain ⟨its, _, pl, _⟩ := I.list hq
   refine ⟨pl.isList.typeIs, fun a e => ?_⟩
   cases e
   obtain ⟨o, n, e, c, hd, _⟩ := pl
   exact ⟨o, e, hd⟩
  ·refine ⟨⟨o, I.kIn p o hk, hc⟩, fun a e => ?_⟩
   cases e
   exact ⟨o, I.kIn _ o hk, hd⟩
  ·have z : ∃ o, s.heap.get? p = some o ∧ o.ExactDict := by
    rcases hk with ⟨kvs, hk⟩ | ⟨kvs, hk⟩
    ·obtain ⟨_, _, _, _, o, _, _, e, ex, _⟩ := I.hok p _ hk
     exact ⟨o, e, ex⟩
    ·obtain ⟨_, _, _, _, o, _, _, e, ex, _⟩ := I.hok p _ hk
     exact ⟨o, e, ex⟩
   obtain ⟨o, e, ex⟩ := z
   refine ⟨⟨o, e, ex.1⟩, fun a e2 => ?_⟩
   cases e2
   exact ⟨o, e, ex.2.1⟩
  ·obtain ⟨o, _, _, _, e, ex, _⟩ := I.hok p _ hk
   refine ⟨⟨o, e, ex.1⟩, fun a e2 => ?_⟩
   cases e2
   exact ⟨o, e, ex.2.1⟩
 | _ => exact False.elim ty
noncomputable def RU (K : PySem.W.Frag) (T : String) (r : V → List V → Hp → VK → Prop) (to : TE) : TE := fun σ H Q => to σ H fun x H1 => tyV K T x H1 ∧ r x [] H1 Q
noncomputable def tBM (K : PySem.W.Frag) (T : String) (r : V → List V → Hp → VK → Prop) (to : TE) (t : TA) : TE := fun σ H Q => to σ H fun x H1 => tyV K T x H1 ∧ t σ H1 fun xs H2 => r x xs H2 Q
variable {o e : Expr} {es : List Expr} {to : TE} {t : TA} {name : Str} {apos cpos : Pos} {T id : String} {r : V → List V → Hp → VK → Prop}
theorem Mt (pa : PlainAttrs T) (slot : Slot T name id) (hty : typeOf (.builtin id) = pure (.type "method_descriptor")) (hm : MtR X id r) (ho : PE X o to)
  (hbase : attributeBase o name X.env (eval o X.env) = eval o X.env := by rfl) (hline : (apos.endLine == cpos.line) = true := by rfl) : PE X (.Call (.Attribute o name apos) [] [] cpos) (RU X.K T r to) := by
 intro pins s σ H Q I h
 refine wpAny_Call_method0_late hbase hline (thn (ho pins s σ H _ I h) fun v s1 zq => ?_)
 obtain ⟨x, H1, I1, r1, ty, q1⟩ := zq
 obtain ⟨h1, h2⟩ := NJ I1 r1 ty
 exact ⟨T, id, pa, slot, hty, h1, h2, Calls.callWith_builtin rfl (PySem.evalArgs_none (hm pins s1 σ H1 x [] v [] Q I1 r1 .nil q1))⟩
theorem FB (pa : PlainAttrs T) (slot : Slot T name id) (hty : typeOf (.builtin id) = pure (.type "method_descriptor")) (hm : MtR X id r) (ho : PE X o to) (ha : PA X (e :: es) t)
  (hbase : attributeBase o name X.env (eval o X.env) = eval o X.env := by rfl)
  (hfew : ((backTo cpos (starEach (e :: es) X.env)).all (fun x => !x.1) && (backToKw cpos (keywordEach [] X.env)).all (fun x => x.1.isSome)
   && decide ((e :: es).length + ([] : List Keyword).length + (if ([] : List Keyword).isEmpty then 0 else 1) < 30)) = true := by rfl)
  (hline : (apos.endLine == cpos.line) = true := by rfl) (hs : starEach (e :: es) X.env = (false, eval e X.env) :: starEach es X.env := by rfl) (hplain : (backTo cpos (starEach es X.env)).any (·.1) = false := by rfl) :
  PE X (.Call (.Attribute o name apos) (e :: es) [] cpos) (tBM X.K T r to t) := by
 intro pins s σ H Q I h
 refine wpAny_Call_method_late hbase hfew hline rfl (thn (ho pins s σ H _ I h) fun v s1 zq => ?_)
 obtain ⟨x, H1, I1, r1, ty, q1⟩ := zq
 obtain ⟨h1, h2⟩ := NJ I1 r1 ty
 refine ⟨T, id, pa, slot, hty, h1, h2, ?_⟩
 have hA := ha cpos pins s1 σ H1 _ I1 q1
 rw [hs] at hA ⊢
 refine Calls.callWith_builtin (by show (false || (backTo cpos (starEach es X.env)).any (·.1)) = false; rw [hplain] <;> rfl) (Calls.evalArgs_plain ?_)
 exact thn hA fun us s2 ⟨vs, H2, I2, r2, q2⟩ => hm pins s2 σ H2 x vs v us Q I2 r1 r2 q2
end
noncomputable def MtM (X : Cx) (id : String) (r : V → List V → Hp → VK → Prop) : Prop :=
 ∀ (pins : List (Addr × Obj)) (s : Shared) (σ : St) (H : Hp) (x : V) (xs : List V) (v : Value) (us : List Value) (Q : VK), Inv X pins σ H s → RelV x v → AX xs us → r x xs H Q →
  wpAny (model X.prog X.w) X.A (call (.builtin id) (v :: us)) (EP X pins σ Q) X.xe s
theorem AX.one {x : V} {us : List Value} (h : AX [x] us) : ∃ u, us = [u] ∧ RelV x u := by
 cases h with
 | cons r q =>
  cases q
  exact ⟨_, rfl, r⟩
theorem AX.zero : ∀ {us : List Value}, AX [] us → us = []
 | _, .nil => rfl
theorem AX.dropLast {xs : List V} {us : List Value} (h : AX xs us) : AX xs.dropLast us.dropLast := by
 induction h with
 | nil => exact .nil
 | cons r t ih =>
  cases t with
  | nil => exact .nil
  | cons q t' => exact .cons r ih
theorem LU {α : Type} (l : List α) : l.eraseIdx (l.length - 1) = l.dropLast := by
 induction l with
 | nil => rfl
 | cons a r ih =>
  cases r with
  | nil => rfl
  | cons b r =>
   have e : (a :: b :: r).length - 1 = ((b :: r).length - 1) + 1 := by
    have h1 : (a :: b :: r).length = r.length + 2 := rfl
    have h2 : (b :: r).length = r.length + 1 := rfl
    lia
   rw [e, List.eraseIdx_cons_succ, ih]
   all_goals rfl
section
variable {X : Cx} {pins : List (Addr × Obj)} {σ : St} {H : Hp} {s : Shared} {l b : Addr} {xs ys zs : List V}
theorem Inv.lset {its its' : List Value} {n : Nat} {f : Array Value → Array Value} {t' : Nat} (I : Inv X pins σ H s) (hH : H l = some (.lst xs))
  (e : s.heap.get? l = some { cls := .type "list", data := .seq its.toArray n }) (hf : f its.toArray = its'.toArray) (hv : AX ys its') (hz : ys.length ≤ sizeLine) :
  Inv X pins σ (upd H l (.lst ys)) { s with heap := s.heap.update l (Obj.mapSeq f), toks := t' } := by
 have q := PySem.IsL.update e f
 rw [hf] at q
 refine I.write (x := l) (e := l) (by rw [hH]; exact trivial) (.inl rfl) (fun b' u hb hu => (Heap.get?_update_other s.heap (Obj.mapSeq f) (Ne.symm hb)).trans hu) ⟨_, q⟩ ?_
 exact ⟨hz, its', _, hv, q⟩
theorem Inv.lnew {its : List Value} {t' : Nat} (I : Inv X pins σ H s) (hv : AX ys its) (hz : ys.length ≤ sizeLine) :
  Inv X pins σ (upd H s.heap.objs.size (.lst ys)) { s with heap := s.heap.push { cls := .type "list", data := .seq its.toArray }, toks := t' } :=
 I.laid (fun _ _ q => Heap.get?_push_of_some _ q) (Nat.le_refl _) ⟨hz, its, 0, hv, Heap.get?_push_size _ rfl⟩
theorem Inv.fresh (I : Inv X pins σ H s) : H s.heap.objs.size = none := I.hok.fresh (Nat.le_refl _)
theorem Inv.lstM (I : Inv X pins σ H s) (hH : H l = some (.lst xs)) : xs.length ≤ sizeLine ∧ ∃ (its : List Value) (n : Nat), AX xs its ∧ xs.length = its.length ∧ s.heap.get? l = some { cls := .type "list", data := .seq its.toArray n } := by
 obtain ⟨z, its, n, r, e⟩ := I.hok l _ hH
 exact ⟨z, its, n, r, r.length, e⟩
end
section
variable {X : Cx}
noncomputable def OJ : V → List V → Hp → VK → Prop := fun x vs H Q => ∃ l xs y, x = .ref l ∧ vs = [y] ∧ H l = some (.lst xs) ∧ xs.length < sizeLine ∧ Q .non (upd H l (.lst (xs ++ [y])))
theorem Fs : MtM X "list.append" OJ := by
 intro pins s σ H x vs v us Q I rx rv h
 obtain ⟨l, xs, y, rfl, rfl, hH, hz, q⟩ := h
 cases rx
 obtain ⟨u, rfl, ru⟩ := rv.one
 obtain ⟨z, its, n, r, hl, e⟩ := I.lstM hH
 refine call_meets F.slot_list_append ⟨_, e, rfl⟩ F.entry_list_append (F.args_list_append_2 _ _) (PySem.list_append l its.toArray n u (by rw [List.size_toArray]; lia)) ⟨e, ?_⟩
 refine ⟨.non, _, I.lset (its' := its ++ [u]) hH e (by simp) (r.append (.cons ru .nil)) ?_, rfl, q⟩
 rw [List.length_append, List.length_singleton]
 lia
noncomputable def rPop : V → List V → Hp → VK → Prop := fun x vs H Q => ∃ l xs y, x = .ref l ∧ vs = [] ∧ H l = some (.lst xs) ∧ xs[xs.length - 1]? = some y ∧ Q y (upd H l (.lst xs.dropLast))
theorem RV : MtM X "list.pop" rPop := by
 intro pins s σ H x vs v us Q I rx rv h
 obtain ⟨l, xs, y, rfl, rfl, hH, hy, q⟩ := h
 cases rx
 have hus := rv.zero
 subst hus
 obtain ⟨z, its, n, r, hl, e⟩ := I.lstM hH
 obtain ⟨u, hu, ru⟩ := r.get hy
 have hy' : its.toArray[its.toArray.size - 1]? = some u := by
  show its.toArray[its.length - 1]? = some u
  rw [← Array.getElem?_toList, ← hl]
  exact hu
 refine call_meets F.slot_list_pop ⟨_, e, rfl⟩ F.entry_list_pop (F.args_list_pop_1 _) (MeetsSeq.list_pop_last l its.toArray n u hy' (by rw [List.size_toArray]; lia)) ⟨e, ?_⟩
 refine ⟨y, _, I.lset (its' := its.dropLast) hH e ?_ r.dropLast ?_, ru, q⟩
 ·show its.toArray.eraseIdxIfInBounds (its.toArray.size - 1) = its.dropLast.toArray
  rw [List.size_toArray, List.eraseIdxIfInBounds_toArray, LU]
 ·rw [List.length_dropLast]
  lia
noncomputable def rCat : R2 := fun x y H Q => ∃ l b xs zs, x = .ref l ∧ y = .ref b ∧ H l = some (.lst xs) ∧ H b = some (.lst zs) ∧ xs.length + zs.length ≤ sizeLine ∧ ∀ p, H p = none → Q (.ref p) (upd H p (.lst (xs ++ zs)))
theorem Tu : OpR X (binaryOp .Add) rCat := by
 intro pins s σ H x y v u Q I rx ry h
 obtain ⟨l, b, xs, zs, rfl, rfl, hH, hB, hz, q⟩ := h
 cases rx
 cases ry
 obtain ⟨z, its, n, r, hl, e⟩ := I.lstM hH
 obtain ⟨z2, its2, n2, r2, hl2, e2⟩ := I.lstM hB
 refine PySem.P.add_list e e2 ?_ (by rw [List.size_toArray, List.size_toArray]; lia)
 have ea : its.toArray ++ its2.toArray = (its ++ its2).toArray := by simp
 rw [ea]
 exact ⟨.ref _, _, I.lnew (t' := s.toks) (r.append r2) (by rw [List.length_append]; lia), rfl, q _ I.fresh⟩
end
section
variable {prog : Program} {w : World} {A : Around} {E : Value → Shared → Prop} {s : Shared}
set_option maxRecDepth 100000 in
end
section
variable {X : Cx}
end
section
variable {κ : Type} [DecidableEq κ]
noncomputable def BW (kvs : List (κ × V)) (k : κ) : Option V := (kvs.find? fun kv => decide (kv.1 = k)).map (·.2)
noncomputable def Dc (kvs : List (κ × V)) (k : κ) (v : V) : List (κ × V) :=
 if (kvs.any fun kv => decide (kv.1 = k)) = true then kvs.map (fun kv => if kv.1 = k then (kv.1, v) else kv) else kvs ++ [(k, v)]
noncomputable def B3 (kvs : List (κ × V)) (k : κ) : List (κ × V) := kvs.filter fun kv => decide (kv.1 ≠ k)
theorem A7 {p : κ × V} {r : List (κ × V)} {k : κ} (e : p.1 = k) : BW (p :: r) k = some p.2 := by simp [BW, List.find?_cons, e]
theorem A0 {p : κ × V} {r : List (κ × V)} {k : κ} (e : ¬ p.1 = k) : BW (p :: r) k = BW r k := by simp [BW, List.find?_cons, e]
theorem C3 (k : κ) : ∀ kvs : List (κ × V), (kvs.any fun kv => decide (kv.1 = k)) = (BW kvs k).isSome
 | [] => rfl
 | p :: r => by
  rw [List.any_cons]
  by_cases e : p.1 = k
  ·simp only [A7 e, decide_eq_true e, Bool.true_or, Option.isSome_some]
  ·rw [A0 e, decide_eq_false e, Bool.false_or]; exact C3 k r
theorem J3 (k j : κ) (y : V) : ∀ kvs : List (κ × V), BW (kvs.map fun kv => if kv.1 = k then (kv.1, y) else kv) j = (BW kvs j).map fun x => if j = k then y else x
 | [] => rfl
 | p :: r => by
  have ih := J3 k j y r
  rw [List.map_cons]
  by_cases h : p.1 = k
  ·rw [if_pos h]
   by_cases e : p.1 = j
   ·rw [A7 (p := (p.1, y)) e, A7 e, Option.map_some, if_pos (e.symm.trans h)]
   ·rw [A0 (p := (p.1, y)) e, A0 e, ih]
  ·rw [if_neg h]
   by_cases e : p.1 = j
   ·rw [A7 (p := p) e, A7 e, Option.map_some, if_neg (fun z => h (e.trans z))]
   ·rw [A0 (p := p) e, A0 e, ih]
theorem Ix (k j : κ) (y : V) : ∀ kvs : List (κ × V), BW kvs k = none → BW (kvs ++ [(k, y)]) j = if j = k then some y else BW kvs j
 | [], _ => by
  by_cases e : k = j
  ·rw [if_pos e.symm]; exact A7 (p := (k, y)) e
  ·rw [if_neg (fun z => e z.symm)]; exact A0 (p := (k, y)) e
 | p :: r, hn => by
  rw [List.cons_append]
  have hk : ¬ p.1 = k := fun z => by rw [A7 z] at hn; cases hn
  rw [A0 hk] at hn
  have ih := Ix k j y r hn
  by_cases e : p.1 = j
  ·rw [A7 e, A7 e, if_neg (fun z => hk (e.trans z))]
  ·rw [A0 e, A0 e, ih]
theorem Kc (kvs : List (κ × V)) (k j : κ) (y : V) : BW (Dc kvs k y) j = if j = k then some y else BW kvs j := by
 unfold Dc
 by_cases a : (kvs.any fun kv => decide (kv.1 = k)) = true
 ·rw [if_pos a, J3]
  rw [C3] at a
  by_cases e : j = k
  ·obtain ⟨x, hx⟩ := Option.isSome_iff_exists.mp a
   rw [if_pos e, e, hx, Option.map_some, if_pos rfl]
  ·rw [if_neg e]
   cases BW kvs j with
   | none => rfl
   | some x => rw [Option.map_some, if_neg e]
 ·rw [if_neg a]
  refine Ix k j y kvs ?_
  rw [C3] at a
  cases q : BW kvs k with
  | none => rfl
  | some x => rw [q] at a; exact (a rfl).elim
theorem F3 (kvs : List (κ × V)) (k : κ) (v : V) : (Dc kvs k v).length ≤ kvs.length + 1 := by
 unfold Dc
 split
 ·rw [List.length_map]; lia
 ·rw [List.length_append, List.length_cons, List.length_nil]; lia
theorem DV.isSome_eq {o : Option V} {u : Option Value} (r : DV o u) : o.isSome = u.isSome := by
 cases o with
 | none => cases u with
  | none => rfl
  | some _ => exact (show False from r).elim
 | some _ => cases u with
  | none => exact (show False from r).elim
  | some _ => rfl
theorem DV.getD {o : Option V} {u : Option Value} {d : V} {d' : Value} (r : DV o u) (rd : RelV d d') : RelV (o.getD d) (u.getD d') := by
 cases o with
 | none => cases u with
  | none => exact rd
  | some _ => exact (show False from r).elim
 | some _ => cases u with
  | none => exact (show False from r).elim
  | some _ => exact r
theorem KV.val {kvs : List (κ × V)} {vs : List (κ × Value)} (r : KV kvs vs) (k : κ) : DV (BW kvs k) (valueAt vs k) := by
 unfold KV at r
 induction r with
 | nil => exact True.intro
 | @cons p q ps qs h t ih =>
  obtain ⟨h1, h2⟩ := h
  by_cases e : p.1 = k
  ·have e' : q.1 = k := h1.symm.trans e
   have b : valueAt (q :: qs) k = some q.2 := by simp [valueAt, List.find?_cons, e']
   rw [A7 e, b]; exact h2
  ·have e' : ¬ q.1 = k := fun z => e (h1.trans z)
   have b : valueAt (q :: qs) k = valueAt qs k := by simp [valueAt, List.find?_cons, e']
   rw [A0 e, b]; exact ih
theorem KV.any {kvs : List (κ × V)} {vs : List (κ × Value)} (r : KV kvs vs) (k : κ) : (kvs.any fun kv => decide (kv.1 = k)) = vs.any fun kv => decide (kv.1 = k) := by
 unfold KV at r
 induction r with
 | nil => rfl
 | cons h t ih => rw [List.any_cons, List.any_cons, ih, h.1]
theorem KV.repl {kvs : List (κ × V)} {vs : List (κ × Value)} (r : KV kvs vs) (k : κ) {y : V} {u : Value} (ry : RelV y u) :
  KV (kvs.map fun kv => if kv.1 = k then (kv.1, y) else kv) (vs.map fun kv => if kv.1 = k then (kv.1, u) else kv) := by
 unfold KV at r ⊢
 induction r with
 | nil => exact .nil
 | @cons p q ps qs h t ih =>
  rw [List.map_cons, List.map_cons]
  refine .cons ?_ ih
  obtain ⟨h1, h2⟩ := h
  by_cases e : p.1 = k
  ·rw [if_pos e, if_pos (h1.symm.trans e)]; exact ⟨h1, ry⟩
  ·rw [if_neg e, if_neg (fun z => e (h1.trans z))]; exact ⟨h1, h2⟩
theorem KV.put {kvs : List (κ × V)} {vs : List (κ × Value)} (r : KV kvs vs) (k : κ) {y : V} {u : Value} (ry : RelV y u) : KV (Dc kvs k y) (stored vs k u) := by
 unfold Dc stored
 rw [r.any k]
 by_cases e : (vs.any fun kv => decide (kv.1 = k)) = true
 ·rw [if_pos e, if_pos e]; exact r.repl k ry
 ·rw [if_neg e, if_neg e]; exact Paired.snoc r ⟨rfl, ry⟩
theorem KV.drop {kvs : List (κ × V)} {vs : List (κ × Value)} (r : KV kvs vs) (k : κ) : KV (B3 kvs k) (without vs k) := by
 unfold KV at r ⊢
 unfold B3 without
 induction r with
 | nil => exact .nil
 | @cons p q ps qs h t ih =>
  obtain ⟨h1, h2⟩ := h
  rw [List.filter_cons, List.filter_cons]
  by_cases e : p.1 = k
  ·have a : ¬ decide (p.1 ≠ k) = true := by simp [e]
   have b : ¬ decide (q.1 ≠ k) = true := by simp [h1.symm.trans e]
   rw [if_neg a, if_neg b]; exact ih
  ·have e' : ¬ q.1 = k := fun z => e (h1.trans z)
   have a : decide (p.1 ≠ k) = true := by simp [e]
   have b : decide (q.1 ≠ k) = true := by simp [e']
   rw [if_pos a, if_pos b]; exact .cons ⟨h1, h2⟩ ih
theorem KV.length {kvs : List (κ × V)} {vs : List (κ × Value)} (r : KV kvs vs) : kvs.length = vs.length := Paired.length r
theorem NS (kvs : List (κ × V)) (k : κ) : (B3 kvs k).length ≤ kvs.length := List.length_filter_le _ _
end
theorem HE {P : Program} {w : World} {k : Key} {u : Value} (r : RelV (kV k) u) : (At P w).is k u = true := by
 cases k with
 | inl i => obtain ⟨t, e⟩ := (show ∃ t, u = Value.int i t from r); subst e; exact J9 P w i t
 | inr x => obtain ⟨t, e⟩ := (show ∃ t, u = Value.str x t from r); subst e; exact Ke P w x t
theorem Iq {P : Program} {w : World} : ∀ {ks : List Key} {us : List Value}, AX (ks.map kV) us → ItemsAre (At P w) ks us
 | [], _, r => by rw [List.map_nil] at r; cases r; exact .nil
 | k :: ks, _, r => by
  rw [List.map_cons] at r
  cases r with
  | cons h t => exact .cons (HE h) (Iq t)
noncomputable abbrev KT (H : Hp) : List (List Key × V) → List (List Key × Addr × Value) → Prop := Paired fun p q => p.1 = q.1 ∧ H q.2.1 = some (.tup (p.1.map kV)) ∧ RelV p.2 q.2.2
theorem KT.val {H : Hp} {kvs : List (List Key × V)} {xs : List (List Key × Addr × Value)} (r : KT H kvs xs) (k : List Key) : DV (BW kvs k) ((atKey xs k).map (·.2)) := by
 induction r with
 | nil => exact True.intro
 | @cons p q ps qs h t ih =>
  obtain ⟨h1, _, h2⟩ := h
  by_cases e : p.1 = k
  ·have e' : q.1 = k := h1.symm.trans e
   have b : atKey (q :: qs) k = some q.2 := by simp [atKey, List.find?_cons, e']
   rw [A7 e, b]; exact h2
  ·have e' : ¬ q.1 = k := fun z => e (h1.trans z)
   have b : atKey (q :: qs) k = atKey qs k := by simp [atKey, List.find?_cons, e']
   rw [A0 e, b]; exact ih
theorem KT.repl {H : Hp} {kvs : List (List Key × V)} {xs : List (List Key × Addr × Value)} (r : KT H kvs xs) (k : List Key) {y : V} {u : Value} (ry : RelV y u) :
  KT H (kvs.map fun kv => if kv.1 = k then (kv.1, y) else kv) (xs.map (putAt k u)) := by
 induction r with
 | nil => exact .nil
 | @cons p q ps qs h t ih =>
  rw [List.map_cons, List.map_cons]
  refine .cons ?_ ih
  obtain ⟨h1, h2, h3⟩ := h
  unfold putAt
  by_cases e : p.1 = k
  ·rw [if_pos e, if_pos (h1.symm.trans e)]; exact ⟨h1, h2, ry⟩
  ·rw [if_neg e, if_neg (fun z => e (h1.trans z))]; exact ⟨h1, h2, h3⟩
theorem KT.put {H : Hp} {kvs : List (List Key × V)} {xs : List (List Key × Addr × Value)} (r : KT H kvs xs) (k : List Key) {b : Addr} {y : V} {u : Value} (hb : H b = some (.tup (k.map kV))) (ry : RelV y u) :
  KT H (Dc kvs k y) (storedH xs k b u) := by
 have e : (kvs.any fun kv => decide (kv.1 = k)) = (atKey xs k).isSome := by
  rw [C3, (r.val k).isSome_eq, Option.isSome_map]
 unfold Dc storedH
 rw [e]
 by_cases q : (atKey xs k).isSome = true
 ·rw [if_pos q, if_pos q]; exact r.repl k ry
 ·rw [if_neg q, if_neg q]; exact Paired.snoc r ⟨rfl, hb, ry⟩
theorem KT.keeps {H H' : Hp} {kvs : List (List Key × V)} {xs : List (List Key × Addr × Value)} (r : KT H kvs xs) (ht : ∀ b ys, H b = some (.tup ys) → H' b = some (.tup ys)) : KT H' kvs xs :=
 Paired.mapP r fun _ _ z => ⟨z.1, ht _ _ z.2.1, z.2.2⟩
section
variable {P : Program} {w : World} {H : Hp} {h : Heap} {a : Addr}
theorem PL {u : HO} (ok : HOk P w H h) (e : Rd H a u) : A5 P w H h a u := e.ok ok
theorem F6 {kvs : List (Key × V)} (ok : HOk P w H h) (e : Rd H a (.dK kvs)) : kvs.length ≤ sizeLine ∧ (a == sysModules) = false ∧ ∃ vs, KV kvs vs ∧ h.DictOf (At P w) a vs :=
 show A5 P w H h a (.dK kvs) from PL ok e
theorem IQ {kvs : List (Key × V)} (ok : HOk P w H h) (e : H a = some (.dK kvs)) : kvs.length ≤ sizeLine ∧ (a == sysModules) = false ∧ ∃ vs, KV kvs vs ∧ h.DictOf (At P w) a vs := F6 ok (.inl e)
theorem FY {ks : List Key} (ok : HOk P w H h) (e : H a = some (.tup (ks.map kV))) : (tupleKind (At P w)).is h ks a := by
 obtain ⟨_, its, r, o, h1, h2, n, h3⟩ := (show A5 P w H h a (.tup (ks.map kV)) from ok a _ e)
 exact ⟨o, its.toArray, n, h1, h2, h3, by simpa using Iq r⟩
theorem HR {kvs : List (List Key × V)} (ok : HOk P w H h) (e : Rd H a (.dT kvs)) : kvs.length ≤ sizeLine ∧ (a == sysModules) = false ∧
  ∃ xs, KT H kvs xs ∧ h.DictOfH (tupleKind (At P w)) a xs := by
 obtain ⟨z, y, xs, r, o, es, ep, h1, h2, h3, h4, h5⟩ := (show A5 P w H h a (.dT kvs) from PL ok e)
 refine ⟨z, y, xs, r, o, es, ep, h1, h2, h3, h4, fun x hx => ?_, h5⟩
 have all : ∀ {l : List (List Key × V)} {m : List (List Key × Addr × Value)}, KT H l m → ∀ x ∈ m, (tupleKind (At P w)).is h x.1 x.2.1 := by
  intro l m q
  induction q with
  | nil => intro x hx; exact nomatch hx
  | @cons p q ps qs hq t ih =>
   intro x hx
   rcases List.mem_cons.mp hx with e | hx
   ·subst e
    exact FY ok (by rw [← hq.1]; exact hq.2.1)
   ·exact ih x hx
 exact all r x hx
theorem dt_of {kvs : List (List Key × V)} (ok : HOk P w H h) (e : H a = some (.dT kvs)) : kvs.length ≤ sizeLine ∧ (a == sysModules) = false ∧
  ∃ xs, KT H kvs xs ∧ h.DictOfH (tupleKind (At P w)) a xs := HR ok (.inl e)
end
noncomputable def Dn (H : Hp) (a : Addr) (y : V) (r : Option V) : Prop :=
 (∃ kvs k, Rd H a (.dK kvs) ∧ y = kV k ∧ r = BW kvs k) ∨ ∃ kvs k b, Rd H a (.dT kvs) ∧ y = .ref b ∧ H b = some (.tup (k.map kV)) ∧ r = BW kvs k
noncomputable def Nl (H : Hp) (a : Addr) (y v : V) (H' : Hp) : Prop :=
 (∃ kvs k, H a = some (.dK kvs) ∧ y = kV k ∧ kvs.length < sizeLine ∧ H' = upd H a (.dK (Dc kvs k v))) ∨
 ∃ kvs k b, H a = some (.dT kvs) ∧ y = .ref b ∧ H b = some (.tup (k.map kV)) ∧ kvs.length < sizeLine ∧ H' = upd H a (.dT (Dc kvs k v))
theorem Dn.k {H : Hp} {a : Addr} {kvs : List (Key × V)} {k : Key} (e : H a = some (.dK kvs)) : Dn H a (kV k) (BW kvs k) := .inl ⟨kvs, k, .inl e, rfl, rfl⟩
section
variable {X : Cx} {pins : List (Addr × Obj)} {σ : St} {H : Hp} {s : Shared} {a : Addr} {y v : V} {u r : Value} {o : Option V} {A : Around} {E : Value → Shared → Prop}
theorem Inv.big (I : Inv X pins σ H s) : sysModules < s.heap.objs.size := by
 have h : mainGlobals < s.heap.objs.size := (I.mod.glob.keeps I.bk).lt
 exact Nat.lt_trans (by decide) h
theorem MS {Q : Value → Shared → Prop} (hu : A.units + 1 < cLine) (I : Inv X pins σ H s) (g : Dn H a y (some v)) (ry : RelV y u) (h : ∀ w' s', Inv X pins σ H s' → RelV v w' → Q w' s') :
  wpAny (model X.prog X.w) A (getItem (.ref a) u) Q E s := by
 rcases g with ⟨kvs, k, e, ey, l⟩ | ⟨kvs, k, b, e, ey, eb, l⟩
 ·subst ey
  obtain ⟨z, hd, vs, rel, dd⟩ := F6 I.hok e
  obtain ⟨w', hw, rw'⟩ := DV.some_of (v := v) (o := valueAt vs k) (by rw [l]; exact rel.val k)
  exact wpAny_getItem_of (HE ry) dd.mapOf hw (h w' _ (I.tok _) rw')
 ·subst ey
  cases (show u = Value.ref b from ry)
  obtain ⟨z, hd, xs, rel, dd⟩ := HR I.hok e
  obtain ⟨w', hw, rw'⟩ := DV.some_of (v := v) (o := (atKey xs k).map (·.2)) (by rw [l]; exact rel.val k)
  obtain ⟨p, hp, hp2⟩ := Option.map_eq_some_iff.mp hw
  refine wpAny_getItem_heap (tupleKind_room_in1 hu) (FY I.hok eb) dd hp ?_
  rw [hp2]
  exact h w' _ (I.tok _) rw'
theorem d_in {Q : Value → Shared → Prop} (hu : A.units + 1 < cLine) (I : Inv X pins σ H s) (g : Dn H a y o) (ry : RelV y u) (h : ∀ s', Inv X pins σ H s' → Q (.bool o.isSome) s') :
  wpAny (model X.prog X.w) A (compareOp .In u (.ref a)) Q E s := by
 rcases g with ⟨kvs, k, e, ey, l⟩ | ⟨kvs, k, b, e, ey, eb, l⟩
 ·subst ey
  obtain ⟨z, hd, vs, rel, dd⟩ := F6 I.hok e
  refine wpAny_in_of (HE ry) hd dd.mapOf ?_
  rw [← (rel.val k).isSome_eq, ← l]
  exact h _ (I.tok _)
 ·subst ey
  cases (show u = Value.ref b from ry)
  obtain ⟨z, hd, xs, rel, dd⟩ := HR I.hok e
  refine wpAny_in_heap (tupleKind_room_in1 hu) (FY I.hok eb) hd dd ?_
  have q := (rel.val k).isSome_eq
  rw [Option.isSome_map] at q
  rw [← q, ← l]
  exact h _ (I.tok _)
theorem Ox {Q : Value → Shared → Prop} (hu : A.units + 1 < cLine) (I : Inv X pins σ H s) (g : Dn H a y o) (ry : RelV y u) (h : ∀ s', Inv X pins σ H s' → Q (.bool (!o.isSome)) s') :
  wpAny (model X.prog X.w) A (compareOp .NotIn u (.ref a)) Q E s := by
 rcases g with ⟨kvs, k, e, ey, l⟩ | ⟨kvs, k, b, e, ey, eb, l⟩
 ·subst ey
  obtain ⟨z, hd, vs, rel, dd⟩ := F6 I.hok e
  refine wpAny_notIn_of (HE ry) hd dd.mapOf ?_
  rw [← (rel.val k).isSome_eq, ← l]
  exact h _ (I.tok _)
 ·subst ey
  cases (show u = Value.ref b from ry)
  obtain ⟨z, hd, xs, rel, dd⟩ := HR I.hok e
  refine wpAny_notIn_heap (tupleKind_room_in1 hu) (FY I.hok eb) hd dd ?_
  have q := (rel.val k).isSome_eq
  rw [Option.isSome_map] at q
  rw [← q, ← l]
  exact h _ (I.tok _)
theorem FU {h' : Heap} {t' : Nat} {ob : HO} (I : Inv X pins σ H s) (mu : Mut (H a)) (hs : Heap.SameBut a s.heap h') (he : ∃ q, h'.get? a = some q) (new : A5 X.prog X.w (upd H a ob) h' a ob) :
  Inv X pins σ (upd H a ob) { s with heap := h', toks := t' } :=
 I.write (x := a) (e := a) mu (.inl rfl) (fun b q hb z => (hs.2 b hb).trans z) he new
theorem JR {P : Program} {w : World} {H' : Hp} {h' : Heap} {kvs : List (Key × V)} {vs : List (Key × Value)} (z : kvs.length ≤ sizeLine) (hd : (a == sysModules) = false) (rel : KV kvs vs) (dd : h'.DictOf (At P w) a vs) :
  A5 P w H' h' a (.dK kvs) := ⟨z, hd, vs, rel, dd⟩
theorem MI {H' : Hp} {Q : Unit → Shared → Prop} (hu : A.units + 1 < cLine) (I : Inv X pins σ H s) (g : Nl H a y v H') (ry : RelV y u) (rv : RelV v r) (h : ∀ s', Inv X pins σ H' s' → Q () s') :
  wpAny (model X.prog X.w) A (setItem (.ref a) u r) Q E s := by
 rcases g with ⟨kvs, k, e, ey, l, eH⟩ | ⟨kvs, k, b, e, ey, eb, l, eH⟩
 ·subst ey eH
  obtain ⟨z, hd, vs, rel, dd⟩ := IQ I.hok e
  have hz : vs.length ≤ sizeLine := by rw [← rel.length]; exact z
  have hl : (Dc kvs k v).length ≤ sizeLine := by have := F3 kvs k v; lia
  refine wpAny_setItem_pairs (hsz := hz) (HE ry) dd fun h' dd' hs => h _ ?_
  have he : ∃ q, h'.get? a = some q := let ⟨q, _, _, hq, _⟩ := dd'; ⟨q, hq⟩
  exact FU I (by rw [e]; exact True.intro) hs he (JR hl hd (rel.put k rv) dd')
 ·subst ey eH
  cases (show u = Value.ref b from ry)
  obtain ⟨z, hd, xs, rel, dd⟩ := dt_of I.hok e
  have hz : xs.length ≤ sizeLine := by rw [← Paired.length rel]; exact z
  have hl : (Dc kvs k v).length ≤ sizeLine := by have := F3 kvs k v; lia
  refine wpAny_setItem_heap (hsz := hz) (tupleKind_room_in1 hu) (FY I.hok eb) dd fun h' dd' hs => h _ ?_
  obtain ⟨q, es, ep, hq, h2, h3, h4, _, h5⟩ := dd'
  refine FU I (by rw [e]; exact True.intro) hs ⟨q, hq⟩ ⟨hl, hd, _, (rel.put k eb rv).keeps fun c ys ec => ?_, q, es, ep, hq, h2, h3, h4, h5⟩
  rw [AI (A4 ec e (fun z => nomatch z))]
  exact ec
end
section
variable {X : Cx} {pins : List (Addr × Obj)} {σ : St} {H : Hp} {s : Shared} {a : Addr} {kvs : List (Key × V)} {k : Key} {u : Value} {A : Around} {E : Value → Shared → Prop}
theorem d_pop {v : V} {more : List Value} {Q : Value → Shared → Prop} (I : Inv X pins σ H s) (e : H a = some (.dK kvs)) (ry : RelV (kV k) u) (l : BW kvs k = some v) (hm : more = [] ∨ ∃ x, more = [x])
  (h : ∀ w' s', Inv X pins σ (upd H a (.dK (B3 kvs k))) s' → RelV v w' → Q w' s') : wpAny (model X.prog X.w) A (call (.builtin "dict.pop") (.ref a :: u :: more)) Q E s := by
 obtain ⟨z, hd, vs, rel, dd⟩ := IQ I.hok e
 obtain ⟨w', hw, rw'⟩ := DV.some_of (v := v) (o := valueAt vs k) (by rw [← l]; exact rel.val k)
 have hp : (keyPart u).isSome = true := by
  cases k with
  | inl i => obtain ⟨t, q⟩ := (show ∃ t, u = Value.int i t from ry); subst q; rfl
  | inr x => obtain ⟨t, q⟩ := (show ∃ t, u = Value.str x t from ry); subst q; rfl
 have ha : argsOk "dict.pop" ⟨.ref a :: u :: more, []⟩ := by
  rcases hm with q | ⟨x, q⟩
  ·subst q; exact PySem.F.args_dict_pop_2 _ _
  ·subst q; exact PySem.F.args_dict_pop_3 _ _ _
 refine call_meetsIn PySem.F.slot_dict_pop dd.typeIs PySem.F.entry_dict_pop ha (meets_dict_pop_there (At X.prog X.w) a (HE ry) more hm hp)
  ⟨vs, w', dd, by rw [← rel.length]; exact z, hw, fun h' dd' hs => h w' _ ?_ rw'⟩
 have he : ∃ q, h'.get? a = some q := let ⟨q, _, _, hq, _⟩ := dd'; ⟨q, hq⟩
 exact FU I (by rw [e]; exact True.intro) hs he (JR (Nat.le_trans (NS kvs k) z) hd (rel.drop k) dd')
theorem d_len {Q : Value → Shared → Prop} (I : Inv X pins σ H s) (e : Rd H a (.dK kvs)) (h : ∀ t s', Inv X pins σ H s' → Q (.int kvs.length t) s') : wpAny (model X.prog X.w) A (call (.builtin "len") [.ref a]) Q E s := by
 obtain ⟨z, hd, vs, rel, dd⟩ := F6 I.hok e
 refine call_len_dict hd dd (by rw [← rel.length]; rw [sizeLine_eq] at z; lia) ?_
 rw [← rel.length]
 exact h _ _ (I.tok _)
end
noncomputable def NoSl (i : Expr) : Prop := ∀ ov iv, subscripted i false ov iv = operate [ov, iv] (getItem ov iv)
theorem Oj {prog : Program} {w : World} {A : Around} {E : Value → Shared → Prop} {s : Shared} {env : Env} {value slice : Expr} {pos : Pos} {T id : String} {Q : Value → Shared → Prop}
  (hl : typeLookup (.type T) "__getitem__" = pure (some (.builtin id))) (hs : NoSl slice)
  (h : wpAny (model prog w) A (eval value env) (fun o s₁ => wpAny (model prog w) A (eval slice env) (fun i s₂ => s₂.TypeIs o T ∧ wpAny (model prog w) A (getItem o i) Q E s₂) E s₁) E s) :
  wpAny (model prog w) A (eval (.Subscript value slice pos) env) Q E s := by
 refine Subscript_ (wpAny_mono h (fun o s₁ h₁ => wpAny_mono h₁ (fun i s₂ h₂ => ?_) fun _ _ x => x) fun _ _ x => x)
 obtain ⟨hT, h₂⟩ := h₂
 unfold subscriptTail
 refine wpAny_bind ?_
 rw [getitemInPython_of_ne hT.not_modules]
 refine wpAny_bind (wpAny_specialOf hT hl ?_)
 have fin : wpAny (model prog w) A (subscripted slice false o i) (fun r s₃ => wpAny (model prog w) A (letTemporaryGo value o r >>= fun _ => pure r) Q E s₃) E s₂ := by
  rw [hs o i]
  exact wpAny_operating (wpAny_mono h₂ (fun r s₃ h₃ => wpAny_bind (wpAny_letTemporaryGo (wpAny_pure h₃))) fun _ _ x => x)
 first
  | exact wpAny_pure (wpAny_bind fin)
  | exact wpAny_bind (wpAny_pure (wpAny_bind fin))
  | exact wpAny_bind fin
theorem Kg {X : Cx} {pins : List (Addr × Obj)} {σ : St} {H : Hp} {s : Shared} {a : Addr} {y : V} {o : Option V} (I : Inv X pins σ H s) (g : Dn H a y o) : s.TypeIs (.ref a) "dict" := by
 rcases g with ⟨kvs, k, e, _, _⟩ | ⟨kvs, k, b, e, _, _, _⟩
 ·obtain ⟨_, _, vs, _, dd⟩ := F6 I.hok e
  exact dd.typeIs
 ·obtain ⟨_, _, xs, _, dd⟩ := HR I.hok e
  exact dd.typeIs
noncomputable def Dm (td ty : TE) : TE := fun σ H Q => td σ H fun x H1 => ty σ H1 fun y H2 => ∃ a v, x = .ref a ∧ Dn H2 a y (some v) ∧ Q v H2
noncomputable def Hj (ty td : TE) : TE := fun σ H Q => ty σ H fun y H1 => td σ H1 fun x H2 => ∃ a o, x = .ref a ∧ Dn H2 a y o ∧ Q (.bl o.isSome) H2
noncomputable def Bq (ty td : TE) : TE := fun σ H Q => ty σ H fun y H1 => td σ H1 fun x H2 => ∃ a o, x = .ref a ∧ Dn H2 a y o ∧ Q (.bl (!o.isSome)) H2
noncomputable def ET (td ty tv : TE) : TS := fun D σ H => tv σ H fun v H1 => td σ H1 fun x H2 => ty σ H2 fun y H3 => ∃ a H4, x = .ref a ∧ Nl H3 a y v H4 ∧ D.nx σ H4
section
variable {X : Cx} {o i e value : Expr} {pos pos' tpos : Pos} {td ty tv : TE}
theorem Li (hu : X.A.units + 1 < cLine) (ho : PE X o td) (hi : PE X i ty) (hs : NoSl i) : PE X (.Subscript o i pos) (Dm td ty) := by
 intro pins s σ H Q I h
 refine Oj PySem.F.slot_dict_getitem.lookup hs (thn (ho pins s σ H _ I h) fun u s1 ⟨x, H1, I1, rx, q1⟩ => thn (hi pins s1 σ H1 _ I1 q1) fun iv s2 zq => ?_)
 obtain ⟨y, H2, I2, ry, a, v, ex, g, q2⟩ := zq
 subst ex
 obtain rfl : u = Value.ref a := rx
 exact ⟨Kg I2 g, MS hu I2 g ry fun w' s3 I3 rw' => ⟨v, H2, I3, rw', q2⟩⟩
theorem TU (hu : X.A.units + 1 < cLine) (hi : PE X i ty) (ho : PE X o td) : PC X .In i o (Hj ty td) := by
 intro pins s σ H Q I h
 refine thn (hi pins s σ H _ I h) fun iv s1 ⟨y, H1, I1, ry, q1⟩ => thn (ho pins s1 σ H1 _ I1 q1) fun u s2 zq => ?_
 obtain ⟨x, H2, I2, rx, a, ov, ex, g, q2⟩ := zq
 subst ex
 obtain rfl : u = Value.ref a := rx
 exact d_in hu I2 g ry fun s3 I3 => ⟨.bl ov.isSome, H2, I3, rfl, q2⟩
theorem MG (hu : X.A.units + 1 < cLine) (hi : PE X i ty) (ho : PE X o td) : PC X .NotIn i o (Bq ty td) := by
 intro pins s σ H Q I h
 refine thn (hi pins s σ H _ I h) fun iv s1 ⟨y, H1, I1, ry, q1⟩ => thn (ho pins s1 σ H1 _ I1 q1) fun u s2 zq => ?_
 obtain ⟨x, H2, I2, rx, a, ov, ex, g, q2⟩ := zq
 subst ex
 obtain rfl : u = Value.ref a := rx
 exact Ox hu I2 g ry fun s3 I3 => ⟨.bl (!ov.isSome), H2, I3, rfl, q2⟩
theorem O2 (hu : X.A.units + 1 < cLine) (ho : PE X o td) (hi : PE X i ty) (hv : PE X value tv) (hs : swapsWith value (some (.Subscript o i pos')) pos.line X.env = pure false) :
  PS X (.Assign [.Subscript o i pos'] value pos) (ET td ty tv) := by
 intro pins s σ H D I h
 refine wpAny_Assign_Subscript (thn (hv pins s σ H _ I h) fun r s1 ⟨v, H1, I1, rv, q1⟩ => thn (ho pins s1 σ H1 _ I1 q1) fun u s2 ⟨x, H2, I2, rx, q2⟩ => thn (hi pins s2 σ H2 _ I2 q2) fun iv s3 ⟨y, H3, I3, ry, a, H4, ex, g, q3⟩ => ?_) hs
 subst ex
 obtain rfl : u = Value.ref a := rx
 exact MI hu I3 g ry rv fun s4 I4 => ⟨σ, H4, I4, q3⟩
end
theorem Nc {P : Program} {w : World} {H : Hp} (h : Heap) (hb : sysModules < h.objs.size) : A5 P w H (h.push { cls := .type "dict", data := .dict #[] }) h.objs.size (.dK []) :=
 ⟨Nat.zero_le _, beq_eq_false_iff_ne.mpr (Ne.symm (Nat.ne_of_lt hb)), [], .nil, Heap.DictOf.new h⟩
noncomputable def QU : TE := fun _ H Q => ∀ p, H p = none → Q (.ref p) (upd H p (.dK []))
section
variable {X : Cx} {pos : Pos}
theorem NZ : PE X (.Dict [] [] pos) QU := fun pins s σ H Q I h =>
 wpAny_Dict_empty ⟨.ref s.heap.objs.size, _, I.laid (a := s.heap.objs.size) (o := .dK []) (t' := s.toks) (fun _ _ q => Heap.get?_push_of_some _ q) (Nat.le_refl _) (Nc s.heap I.big), rfl, h _ (I.hok.fresh (Nat.le_refl _))⟩
end
structure M1 (X : Cx) (o : Expr) (m : Str) (apos : Pos) (e : Expr) (cpos : Pos) : Prop where
 base : attributeBase o m X.env (eval o X.env) = eval o X.env
 few : ((backTo cpos (starEach [e] X.env)).all (fun x => !x.1) && (backToKw cpos (keywordEach [] X.env)).all (fun x => x.1.isSome)
  && decide (([e] : List Expr).length + ([] : List Keyword).length + (if ([] : List Keyword).isEmpty then 0 else 1) < 30)) = true
 line : (apos.endLine == cpos.line) = true
 trees : backTo cpos (starEach [e] X.env) = [(false, eval e X.env)]
structure M2 (X : Cx) (o : Expr) (m : Str) (apos : Pos) (e f : Expr) (cpos : Pos) : Prop where
 base : attributeBase o m X.env (eval o X.env) = eval o X.env
 few : ((backTo cpos (starEach [e, f] X.env)).all (fun x => !x.1) && (backToKw cpos (keywordEach [] X.env)).all (fun x => x.1.isSome)
  && decide (([e, f] : List Expr).length + ([] : List Keyword).length + (if ([] : List Keyword).isEmpty then 0 else 1) < 30)) = true
 line : (apos.endLine == cpos.line) = true
 trees : backTo cpos (starEach [e, f] X.env) = [(false, eval e X.env), (false, eval f X.env)]
noncomputable def IsD (H : Hp) (a : Addr) : Prop := (∃ kvs, Rd H a (.dK kvs)) ∨ ∃ kvs, Rd H a (.dT kvs)
theorem NU {X : Cx} {pins : List (Addr × Obj)} {σ : St} {H : Hp} {s : Shared} {a : Addr} (I : Inv X pins σ H s) (d : IsD H a) :
  s.TypeIs (.ref a) "dict" ∧ (∀ b, Value.ref a = .ref b → ∃ ob, s.heap.get? b = some ob ∧ ob.dict = none) ∧ (a == sysModules) = false := by
 rcases d with ⟨kvs, e⟩ | ⟨kvs, e⟩
 ·obtain ⟨_, hd, vs, _, dd⟩ := F6 I.hok e
  refine ⟨dd.typeIs, fun b q => ?_, hd⟩
  cases q
  obtain ⟨ob, _, _, h1, h2, _⟩ := dd
  exact ⟨ob, h1, h2.2.1⟩
 ·obtain ⟨_, hd, xs, _, dd⟩ := HR I.hok e
  refine ⟨dd.typeIs, fun b q => ?_, hd⟩
  cases q
  obtain ⟨ob, _, _, h1, h2, _⟩ := dd
  exact ⟨ob, h1, h2.2.1⟩
section
variable {X : Cx} {pins : List (Addr × Obj)} {σ : St} {H : Hp} {s : Shared} {a : Addr} {y d : V} {u r : Value} {o : Option V} {A : Around} {E : Value → Shared → Prop}
theorem Tg {Q : Value → Shared → Prop} (hu : A.units + 1 < cLine) (I : Inv X pins σ H s) (g : Dn H a y o) (ry : RelV y u) (rd : RelV d r) (h : ∀ w' s', Inv X pins σ H s' → RelV (o.getD d) w' → Q w' s') :
  wpAny (model X.prog X.w) A (call (.builtin "dict.get") [.ref a, u, r]) Q E s := by
 rcases g with ⟨kvs, k, e, ey, l⟩ | ⟨kvs, k, b, e, ey, eb, l⟩
 ·subst ey
  obtain ⟨z, hd, vs, rel, dd⟩ := F6 I.hok e
  refine call_meetsIn PySem.F.slot_dict_get dd.typeIs PySem.F.entry_dict_get (PySem.F.args_dict_get_3 _ _ _) (meets_dict_get_default (At X.prog X.w) a (HE ry) hd r) ⟨_, dd.mapOf, h _ _ (I.tok _) ?_⟩
  rw [l]
  exact (rel.val k).getD rd
 ·subst ey
  cases (show u = Value.ref b from ry)
  obtain ⟨z, hd, xs, rel, dd⟩ := HR I.hok e
  refine call_meetsIn PySem.F.slot_dict_get dd.typeIs PySem.F.entry_dict_get (PySem.F.args_dict_get_3 _ _ _) (meetsH_dict_get_default (tupleKind (At X.prog X.w)) a b hd r) ⟨tupleKind_room_in1 hu, k, xs, FY I.hok eb, dd, h _ _ (I.tok _) ?_⟩
  rw [l]
  exact (rel.val k).getD rd
end
noncomputable def C0 (td ty tx : TE) : TE := fun σ H Q => td σ H fun x H1 => ∃ a, x = .ref a ∧ IsD H1 a ∧ ty σ H1 fun y H2 => tx σ H2 fun z H3 => ∃ o, Dn H3 a y o ∧ Q (o.getD z) H3
noncomputable def Ci (td ty : TE) : TE := fun σ H Q => td σ H fun x H1 => ∃ a, x = .ref a ∧ IsD H1 a ∧ ty σ H1 fun y H2 => ∃ kvs k v, H2 a = some (.dK kvs) ∧ y = kV k ∧ BW kvs k = some v ∧ Q v (upd H2 a (.dK (B3 kvs k)))
section
variable {X : Cx} {o e f : Expr} {apos cpos : Pos} {td ty tx : TE}
theorem N4 (hu : X.A.units + 1 < cLine) (ho : PE X o td) (he : PE X e ty) (hf : PE X f tx) (m : M2 X o "get" apos e f cpos) : PE X (.Call (.Attribute o "get" apos) [e, f] [] cpos) (C0 td ty tx) := by
 intro pins s σ H Q I h
 refine wpAny_Call_method m.base m.few m.line PySem.F.plainAttrs_dict PySem.F.slot_dict_get PySem.F.type_dict_get (thn (ho pins s σ H _ I h) fun u s1 zq => ?_)
 obtain ⟨x, H1, I1, rx, a, ex, d, q1⟩ := zq
 subst ex
 obtain rfl : u = Value.ref a := rx
 obtain ⟨t1, t2, _⟩ := NU I1 d
 refine ⟨t1, t2, ?_⟩
 rw [m.trees]
 refine Calls.callWith_builtin rfl (Calls.evalArgs_plain (Calls.spliced_cons (thn (he pins s1 σ H1 _ I1 q1) fun iv s2 ⟨y, H2, I2, ry, q2⟩ =>
  Calls.spliced_cons (thn (hf pins s2 σ H2 _ I2 q2) fun fv s3 ⟨z, H3, I3, rz, ov, g, q3⟩ => Calls.spliced_nil ?_))))
 exact Tg hu I3 g ry rz fun w' s4 I4 rw' => ⟨_, H3, I4, rw', q3⟩
theorem N8 (ho : PE X o td) (he : PE X e ty) (m : M1 X o "pop" apos e cpos) : PE X (.Call (.Attribute o "pop" apos) [e] [] cpos) (Ci td ty) := by
 intro pins s σ H Q I h
 refine wpAny_Call_method m.base m.few m.line PySem.F.plainAttrs_dict PySem.F.slot_dict_pop PySem.F.type_dict_pop (thn (ho pins s σ H _ I h) fun u s1 zq => ?_)
 obtain ⟨x, H1, I1, rx, a, ex, d, q1⟩ := zq
 subst ex
 obtain rfl : u = Value.ref a := rx
 obtain ⟨t1, t2, _⟩ := NU I1 d
 refine ⟨t1, t2, ?_⟩
 rw [m.trees]
 refine Calls.callWith_builtin rfl (Calls.evalArgs_plain (Calls.spliced_cons (thn (he pins s1 σ H1 _ I1 q1) fun iv s2 ⟨y, H2, I2, ry, kvs, k, v, ea, ey, l, q2⟩ => Calls.spliced_nil ?_)))
 subst ey
 exact d_pop I2 ea ry l (.inl rfl) fun w' s3 I3 rw' => ⟨v, _, I3, rw', q2⟩
end
section
variable {X : Cx} {pins : List (Addr × Obj)} {σ : St} {H : Hp} {s : Shared} {a : Addr} {kvs : List (Key × V)} {A : Around} {E : Value → Shared → Prop}
end
section
variable {X : Cx} {pins : List (Addr × Obj)} {σ : St} {H : Hp} {s : Shared} {a : Addr} {y : V} {u : Value} {A : Around} {E : Value → Shared → Prop}
end
end L2
namespace Att
open PySem PySem.W PySem.Calls PyProof.Rows
theorem ints_of_wellAll {P : Params} {h : Heap} : ∀ (ns : List Int) (vs : List Value), WellAll P h vs (ns.map WData.int) → IntsAre vs ns := by
 intro ns
 induction ns with
 | nil =>
  intro vs w
  rw [List.map_nil] at w
  cases w
  exact .nil
 | cons n ns ih =>
  intro vs w
  rw [List.map_cons] at w
  cases w with
  | cons a b =>
   cases a
   exact .cons _ _ (ih _ b)
theorem script_of {l : OpenLaw} {n : Nat} (hn : l.most = some n) {P : Params} {h : Heap} {args : List WData} {vals : List Value}
  (hpre : l.row.toRowW.claim.pre args = true) (hwl : WellAll P h vals args) :
  ∃ a vs ns, vals = [Value.ref a] ∧ args = [WData.list (ns.map WData.int)] ∧ h.get? a = some { cls := .type "list", data := .seq vs.toArray } ∧ IntsAre vs ns ∧ ns.length ≤ n := by
 have hsh : WShape.hasAll [] args [.list .int] = true := (pre_splitW hpre).1
 have hc : l.pre.holds [] { args := args } = true := (pre_splitW hpre).2
 obtain ⟨d, r, rfl, h1, h2⟩ := hasAllW_cons hsh
 obtain rfl := hasAllW_nil h2
 obtain ⟨xs, rfl, h3⟩ := hasW_list h1
 obtain ⟨ns, rfl⟩ := items_int h3
 have hlen : ns.length ≤ n := by
  unfold OpenLaw.pre at hc
  have h4 : (WTm.not (.lt (.lit (.int (n : Int))) (.len (.arg 0)))).holds [] { args := [.list (ns.map .int)] } = true := by
   have h4 := (holds_andW hc).1
   rw [hn] at h4
   exact h4
  have h5 := condW_of h4 (w_not (w_lt w_lit (w_len_list (w_arg rfl))))
  rw [List.length_map] at h5
  refine Nat.le_of_not_lt fun q => ?_
  have q' : (n : Int) < ((ns.length : Nat) : Int) := by lia
  first
   | (rw [decide_eq_true q'] at h5; exact absurd h5 (by decide))
   | (simp at h5; lia)
 cases hwl with
 | cons w1 w2 =>
  cases w2
  cases w1 with
  | list ho hall => exact ⟨_, _, ns, rfl, rfl, ho, ints_of_wellAll ns _ hall, hlen⟩
theorem post_true (l : OpenLaw) (args : List WData) : l.row.toRowW.claim.post args (.bool true) args = true :=
 postW_of (r := l.row.toRowW) (X := (true == true))
  (show WShape.has [] (.bool true) .bool = true by first | rfl | decide | simp [WShape.has, WShape.arms, WShape.armsAll])
  (show (WTm.eq .res (.lit (.bool true))).value [] { args := args, res := some (.bool true), after := args } = some (.bool (true == true)) from w_eq_bool (w_res rfl) w_lit) rfl
theorem attach_call {l : OpenLaw} {n : Nat} {q : Program} {loose : List Str} {XP : (Str → Option Value) → Heap → Prop} {YP : World → Heap → Prop} {d : DefRec}
  (hn : l.most = some n) (hdf : d.params.defaults = [])
  (call : ∀ (w : World) (s₀ s₁ : Shared) (mg mb : Str → Option Value) (fa : Addr) (o : Obj) (pm cd doc : Value) (a : Addr) (vs : List Value) (ns : List Int),
   Ground q loose [] XP w s₀ mg mb s₁.heap → YP w s₁.heap →
   s₁.heap.get? fa = some o → o.data = .func (docDef d.name d.params d.body d.scope pm cd doc) → s₁.heap.CodeRec cd d.name → mg d.name = some (.ref fa) →
   s₁.heap.get? a = some { cls := .type "list", data := .seq vs.toArray } → IntsAre vs ns → ns.length ≤ n → s₁.gens = #[] →
   codeAny (model l.prog w) callerA (.call (.ref fa) ⟨[.ref a], []⟩) (fun r s' => r = .ok (.ret (.bool true)) ∧ OldK s₁.heap s'.heap ∧ s'.os = s₁.os ∧ AllBare s'.gens) s₁) :
  WalkO q loose XP YP l.row.toRowW d [] (fun f vs => PySem.call f vs) := by
 intro w s₀ s₁ mg mb G Y fa o pm cd doc dV kV ho hd hcd hD hmg hg args vals as hpre hlay hrd hwl hlo
 obtain rfl : dV = .none := Dflts.none hD hdf
 obtain rfl : kV = .none := Dflts.noKw hD
 obtain ⟨a, vs, ns, rfl, rfl, hobj, hints, hlen⟩ := script_of hn hpre hwl
 refine enter_call (codeAny_mono (call w s₀ s₁ mg mb fa o pm cd doc a vs ns G Y ho (fd_plain hd) hcd hmg hobj hints hlen hg) fun r s' hq => ?_)
 obtain ⟨rfl, h2, h3, h4⟩ := hq
 exact ⟨.inl ⟨.bool true, .bool true, [], rfl, fun _ => rfl, .bool true, post_true l _, fun _ => ⟨List.Pairwise.nil, fun _ hm => (nomatch hm)⟩⟩, h2, h3, h4⟩
section
variable {prog : Program} {w : World} {A : Around} {E : Value → Shared → Prop} {s : Shared} {K : Frag}
end
end Att
namespace L2
open PySem PySem.Spec PyProof.Rows
theorem Iy : ∀ {vs : List Value} {ns : List Int}, IntsAre vs ns → AX (ns.map V.int) vs
 | _, _, .nil => .nil
 | _, _, .cons n t h => .cons ⟨t, rfl⟩ (Iy h)
noncomputable def Rc (H : Hp) : Prop := ∀ b, H b = none ∨ ∃ o xs, H b = some (.frz o (.lst xs))
theorem Nd {P : Program} {w : World} {K : PySem.W.Frag} {mg mb : Str → Option Value} {CX : CXT} {k : Nat} {fa a : Addr} {fd : FuncData} {x : Str} {sp : Sp} {s₁ : Shared} {vs : List Value} {ns : List Int}
  (KX : K.In s₁.heap) (hns : s₁.heap.Ns mainGlobals mg) (hb : s₁.heap.Ns builtinsNs mb) (hbb : ∀ x : Str, x ≠ "__name__" → mb x = bootBuiltins x) (hlim : s₁.heap.NoLimit) (hg : s₁.gens = #[])
  (ha : s₁.heap.get? a = some { cls := .type "list", data := .seq vs.toArray }) (hi : IntsAre vs ns) (hl : ns.length ≤ sizeLine) (hr : BY k callerA)
  (F : ∀ base : Heap, K.In base → base.Ns mainGlobals mg → Ag P w K mg base CX k fa fd [x] sp) (hbind : ∀ (s : Shared) (u : Value), BindsTo s fd ⟨[u], []⟩ [(x, u)])
  (hsp : ∀ H : Hp, Rc H → SqL K H a (ns.map V.int) → sp [.ref a] H (fun v _ => v = .bl true) fun _ _ _ => False)
  (hCX : ∀ H e s', CX [] H s₁ (fun _ _ _ => False) e s' → False) :
  codeAny (model P w) callerA (.call (.ref fa) ⟨[.ref a], []⟩) (fun r s' => r = .ok (.ret (.bool true)) ∧ OldK s₁.heap s'.heap ∧ s'.os = s₁.os ∧ AllBare s'.gens) s₁ := by
 have rv := Iy hi
 have lenV := hi.length
 have core : ∀ H : Hp, Rc H → SqL K H a (ns.map V.int) → HOk P w H s₁.heap → (∀ b, H b ≠ none → b = a) → (H a ≠ none → K.lookup a = none) →
   codeAny (model P w) callerA (.call (.ref fa) ⟨[.ref a], []⟩) (fun r s' => r = .ok (.ret (.bool true)) ∧ OldK s₁.heap s'.heap ∧ s'.os = s₁.os ∧ AllBare s'.gens) s₁ := by
  intro H hO hS hok hA hK
  have base_of : ∀ {b : Addr} {o : Obj}, s₁.heap.get? b = some o → H b = none → (JQ s₁.heap H).get? b = some o := fun e n => NM e n
  have noA : ∀ {b : Addr} {o : Obj} {es : Array DictEntry} {ep : Nat}, s₁.heap.get? b = some o → o.data = .dict es ep → H b = none := fun {b o es ep} e d => by
   cases q : H b with
   | none => rfl
   | some u =>
    have e' : b = a := hA b (by rw [q]; simp)
    subst e'
    rw [ha] at e; cases e
    have d' : Data.seq vs.toArray _ = Data.dict es ep := d
    cases d'
  have nsK : ∀ {b : Addr} {m : Str → Option Value}, s₁.heap.Ns b m → (JQ s₁.heap H).Ns b m := fun {b m} ⟨o, es, ep, e, d, r⟩ => ⟨o, es, ep, base_of e (noA e d), d, r⟩
  have hKb : K.In (JQ s₁.heap H) := fun b o e => base_of (KX b o e) (by
   cases q : H b with
   | none => rfl
   | some u =>
    have e' : b = a := hA b (by rw [q]; simp)
    subst e'
    rw [hK (by rw [q]; simp)] at e; cases e)
  have hM : Mod K mg (JQ s₁.heap H) := ⟨hKb, nsK hns, ⟨mb, nsK hb, hbb⟩, let ⟨mc, h1, h2⟩ := hlim; ⟨mc, nsK h1, h2⟩⟩
  have e0 : LY P w K mg (JQ s₁.heap H) callerA [] s₁ H := ⟨rfl, hM, fun b o e => OC e, Nat.le_of_eq (L8 _ _), trivial, fun b hb => absurd (show b ∈ ([] : List Addr) from hb) (by simp), hok, .of_eq hg⟩
  refine codeAny_mono ((F _ hKb (nsK hns)).run callerA [] s₁ H ⟨[.ref a], []⟩ [.ref a] [.ref a] _ _ hr e0 (hbind s₁ (.ref a)) (.cons rfl .nil) (hsp H hO hS)) fun r s' h => ?_
  cases r with
  | error e => exact (hCX H e s' h).elim
  | ok fl =>
   cases fl with
   | next => exact False.elim h
   | brk => exact False.elim h
   | cont => exact False.elim h
   | ret u =>
    obtain ⟨v, H', os, bare, un, hok', r', q⟩ := h
    have q' : v = .bl true := q
    subst q'
    obtain rfl : u = Value.bool true := r'
    refine ⟨rfl, OldK.of_keep fun b o e => ?_, os, bare⟩
    cases q : H b with
    | none => exact un.keep b o e q (by intro z; exact absurd (show b ∈ ([] : List Addr) from z) (by simp)) (by simp)
    | some u =>
     rcases hO b with z | ⟨ob, xs, z⟩
     ·rw [q] at z; cases z
     ·have z2 := un.frzs b ob _ z
      obtain ⟨e1, _⟩ := hok b _ z
      obtain ⟨e2, _⟩ := hok' b _ z2
      rw [e] at e1; cases e1
      exact e2
 cases hk : K.lookup a with
 | some o =>
  have e := KX a o hk
  rw [ha] at e
  cases e
  refine core (fun _ => none) (fun _ => .inl rfl) (.inr ⟨_, vs.toArray, _, hk, rfl, rfl, rfl, by rw [List.size_toArray, lenV]; exact hl, by simpa using rv⟩) (fun b u z => by have z' : (none : Option HO) = some u := z; cases z') (fun b z => absurd rfl z) fun z => absurd rfl z
 | none =>
  refine core (fun b => if b = a then some (.frz { cls := .type "list", data := .seq vs.toArray } (.lst (ns.map V.int))) else none) (fun b => ?_) (.inl (.inr ⟨{ cls := .type "list", data := .seq vs.toArray }, if_pos rfl⟩)) (fun b u z => ?_) (fun b z => ?_) fun _ => hk
  ·by_cases hb : b = a
   ·exact .inr ⟨_, _, if_pos hb⟩
   ·exact .inl (if_neg hb)
  ·by_cases hb : b = a
   ·have z' := (if_pos hb).symm.trans z
    cases z'
    subst hb
    exact ⟨ha, by rw [List.length_map]; exact hl, vs, _, rv, ha⟩
   ·have z' := (if_neg hb).symm.trans z
    cases z'
  ·by_cases hb : b = a
   ·exact hb
   ·exact absurd (if_neg hb) z
noncomputable def BN (s : Stmt) (j : Nat) : Stmt := match s with
 | .ClassDef _ _ _ body _ _ _ _ _ _ _ => body.getD j (.Pass ⟨0, 0, 0, 0⟩)
 | _ => .Pass ⟨0, 0, 0, 0⟩
noncomputable def BF (s : Stmt) : Arguments := match s with
 | .FunctionDef _ a _ _ _ _ _ _ _ _ => a
 | _ => { posonlyargs := [], args := [], vararg := none, kwonlyargs := [], kw_defaults := [], kwarg := none, defaults := [] }
noncomputable def A1 (s : Stmt) : List Stmt := match s with
 | .FunctionDef _ _ b _ _ _ _ _ _ _ => b
 | _ => []
noncomputable def AF (s : Stmt) : Scope := match s with
 | .FunctionDef _ _ _ _ _ _ sc _ _ _ => sc
 | _ => { kind := .function, names := [], isGenerator := false, isCoroutine := false }
noncomputable abbrev CX0 : CXT := fun _ _ _ _ _ _ => False
noncomputable abbrev E0 : XK := fun _ _ _ => False
theorem Al {X : Cx} : Cy CX0 X E0 := fun _ _ _ _ _ _ _ h => h.elim
structure Fun (K : PySem.W.Frag) (x qual : Str) (st : Stmt) (f : Addr) (fd : FuncData) : Prop where
 ex : ∃ (oc : Value) (od : Option Addr) (kV doc pm : Value) (an : Option Addr) (cdv ct : Value) (osl : Array (Option Value)),
  fd = PySem.W.fnOf x qual (BF st) (A1 st) (AF st) .none kV doc pm an cdv ct ∧ K.lookup f = some ⟨oc, od, .func fd, osl⟩ ∧ PySem.W.codeIn K cdv qual = true
 kp : PySem.W.keepIn K (.ref f) = true
section
variable {P : Program} {w : World} {K : PySem.W.Frag} {mg : Str → Option Value} {base : Heap}
theorem Fun.ok {x qual : Str} {st : Stmt} {f : Addr} {fd : FuncData} {N ps : List Str} {k : Nat} {sp : Sp} (F : Fun K x qual st f fd) (S : AN N ps (AF st)) (len : ∀ vs H Q E, sp vs H Q E → vs.length = ps.length)
  (hbody : ∀ (cdv : Value) (A : Around) (outer : List Env) (s : Shared) (H : Hp) (vs : List V) (Q : VK) (E : XK), BY k (A.deeper (envOfC qual (AF st) s.heap.objs.size f cdv)) → sp vs H Q E →
   ∃ t, PSs (Au CX0 P w K mg base N qual (AF st) f cdv A outer s H E).nox (A1 st) t ∧ t { nx := fun _ H' => Q .non H', rt := Q } (start N vs) H) : Ag P w K mg base CX0 (k + 1) f fd ps sp := by
 obtain ⟨oc, od, kV, doc, pm, an, cdv, ct, osl, rfl, lk, hcd⟩ := F.ex
 refine Nh lk hcd S len fun A outer s H vs Q E hr hsp => ?_
 obtain ⟨t, h, q⟩ := hbody cdv A outer s H vs Q E hr hsp
 exact ⟨t, h.nox, q⟩
theorem Fun.binds {x qual : Str} {st : Stmt} {f : Addr} {fd : FuncData} {ps : List Str} (F : Fun K x qual st f fd)
  (h : ∀ (kV doc pm : Value) (an : Option Addr) (cdv ct : Value) (us : List Value), us.length = ps.length → bindArgs (PySem.W.fnOf x qual (BF st) (A1 st) (AF st) .none kV doc pm an cdv ct) ⟨us, []⟩ = pure (ps.zip us)) : Binds K fd ps [] := by
 obtain ⟨oc, od, kV, doc, pm, an, cdv, ct, osl, rfl, lk, hcd⟩ := F.ex
 exact .all (h kV doc pm an cdv ct)
theorem Fn {x qual : Str} {st : Stmt} {f : Addr} {oc : Value} {od an : Option Addr} {osl : Array (Option Value)} {kV doc pm cdv ct : Value} (l : K.lookup f = some ⟨oc, od, .func (PySem.W.fnOf x qual (BF st) (A1 st) (AF st) .none kV doc pm an cdv ct), osl⟩)
  (c : PySem.W.codeIn K cdv qual = true) (k : PySem.W.keepIn K (.ref f) = true) : Fun K x qual st f (PySem.W.fnOf x qual (BF st) (A1 st) (AF st) .none kV doc pm an cdv ct) := ⟨⟨oc, od, kV, doc, pm, an, cdv, ct, osl, rfl, l, c⟩, k⟩
end
theorem hu_of {A : Around} {k : Nat} (hr : BY k A) : A.units + 1 < cLine := Nat.lt_of_le_of_lt (Nat.add_le_add_left (by decide : 1 ≤ 64) _) hr.units
section
variable {X : Cx}
theorem pv (i : Nat) {x : Str} {pos : Pos} (hN : X.N[i]? = some x := by rfl) (hv : Vis X.env.scope x := by first | exact Or.inl rfl | exact Or.inr (Or.inl rfl) | exact Or.inr (Or.inr rfl)) (hd : (x == ("__debug__" : Str)) = false := by decide)
  (hcd : (x == ("__classdict__" : Str)) = false := by decide) : PE X (.Name x pos) (Fm i) := R8 hN hv hd hcd
end
noncomputable def AH (H H' : Hp) : Prop := ∀ b o, H b = some o → H' b = some o
theorem AH.refl (H : Hp) : AH H H := fun _ _ h => h
theorem AH.trans {H H1 H2 : Hp} (a : AH H H1) (b : AH H1 H2) : AH H H2 := fun c o h => b c o (a c o h)
theorem AH.free {H H' : Hp} (e : AH H H') {l : Addr} (h : H' l = Option.none) : H l = Option.none := by
 cases q : H l with
 | none => rfl
 | some o =>
  rw [e l o q] at h
  cases h
theorem AH.seq {K : PySem.W.Frag} {H H' : Hp} {a : Addr} {xs : List V} (e : AH H H') (h : SqL K H a xs) : SqL K H' a xs := by
 rcases h with (h | ⟨o, h⟩) | h
 ·exact .inl (.inl (e _ _ h))
 ·exact .inl (.inr ⟨o, e _ _ h⟩)
 ·exact .inr h
section
variable {X : Cx}
theorem Fo : BJ X (.builtin "len") (fun xs H Q => ∃ a kvs, xs = [V.ref a] ∧ H a = some (.dK kvs) ∧ Q (.int kvs.length) H) := by
 intro pins s σ H xs us Q I r h
 obtain ⟨a, kvs, rfl, ha, q⟩ := h
 obtain ⟨u, rfl, ru⟩ := vals1 r
 cases ru
 exact d_len I (.inl ha) fun t s' I' => ⟨.int kvs.length, H, I', ⟨t, rfl⟩, q⟩
end
section
variable {κ : Type} [DecidableEq κ]
theorem OI {kvs : List (κ × V)} {k : κ} {v : V} (h : BW kvs k = some v) : k ∈ kvs.map (·.1) := by
 have q : (kvs.any fun kv => decide (kv.1 = k)) = true := by
  rw [C3, h]
  all_goals rfl
 obtain ⟨p, hp, e⟩ := List.any_eq_true.mp q
 exact List.mem_map.mpr ⟨p, hp, of_decide_eq_true e⟩
theorem MC {p : κ × V} {r : List (κ × V)} {k : κ} (e : p.1 = k) : B3 (p :: r) k = B3 r k := by
 unfold B3
 rw [List.filter_cons, if_neg (by simp [e])]
theorem MH {p : κ × V} {r : List (κ × V)} {k : κ} (e : ¬ p.1 = k) : B3 (p :: r) k = p :: B3 r k := by
 unfold B3
 rw [List.filter_cons, if_pos (by simp [e])]
end
theorem Jm : bootBuiltins "abs" = some (.builtin "abs") := by decide +kernel
theorem Ar : bootBuiltins "len" = some (.builtin "len") := by decide +kernel
theorem Cw : bootBuiltins "isinstance" = some (.builtin "isinstance") := by decide +kernel
theorem NC : bootBuiltins "max" = some (.builtin "max") := by decide +kernel
theorem Kx : bootBuiltins "int" = some (.type "int") := by decide +kernel
theorem GV : bootBuiltins "list" = some (.type "list") := by decide +kernel
theorem Bf : bootBuiltins "str" = some (.type "str") := by decide +kernel
noncomputable def Sm (i : Int) : Prop := i.natAbs < 2 ^ 4000
theorem Sm.of {i : Int} {n : Nat} (h : i.natAbs ≤ n) (hn : n < 2 ^ 4000) : Sm i := Nat.lt_of_le_of_lt h hn
section
variable {X : Cx}
theorem Do : BJ X (.builtin "isinstance") (fun xs H Q => ∃ x n t b, xs = [x, .ty n] ∧ Dy X.K H x t ∧ PySem.W.kitOne X.K t (.type n) = some b ∧ Q (.bl b) H) := by
 intro pins s σ H xs us Q I r h
 obtain ⟨x, n, t, b, rfl, ty, e, q⟩ := h
 obtain ⟨u, w', rfl, r1, r2⟩ := vals2 r
 cases (show w' = Value.type n from r2)
 exact Ml I r1 ty e fun tk => ⟨.bl b, H, I.tok tk, rfl, q⟩
end
structure D (K : PySem.W.Frag) (mg : Str → Option Value) (x : Str) (st : Stmt) (ps : List Str) (f : Addr) (fd : FuncData) : Prop where
 F : Fun K x x st f fd
 m : mg x = some (.ref f)
 b : Binds K fd ps []
section
variable {X : Cx} {st : Stmt} {rest : List Stmt} {t u : TS}
theorem Mu {t u : TS} {D : En} {σ : St} {H : Hp} (h : ∀ M : St → Hp → Prop, (∀ σ' H', u D σ' H' → M σ' H') → t { D with nx := M } σ H) : Ka t u D σ H := h _ fun _ _ z => z
noncomputable def tCut (t u : TS) : TS := fun D σ H => ∃ M : St → Hp → Prop, t { D with nx := M } σ H ∧ ∀ σ' H', M σ' H' → u D σ' H'
theorem DG (h1 : PS X st t) (h2 : PSs X rest u) : PSs X (st :: rest) (tCut t u) := by
 intro pins s σ H D I h
 obtain ⟨M, h, hM⟩ := h
 refine wpAny_execs_cons (thn (h1 pins s σ H _ I h) fun f s1 q => ?_)
 cases f with
 | next =>
  obtain ⟨σ', H', I', q⟩ := q
  exact h2 pins s1 σ' H' D I' (hM σ' H' q)
 | ret v => exact q
 | brk => exact q
 | cont => exact q
end
theorem cxK {CX : CXT} {P : Program} {w : World} {K : PySem.W.Frag} {mg : Str → Option Value} {base : Heap} {N : List Str} {qual : Str} {scope : Scope} {f : Addr} {cd : Value} {A : Around} {outer : List Env} {s : Shared} {H : Hp} {E : XK} :
 (Au CX P w K mg base N qual scope f cd A outer s H E).K = K := rfl
theorem Fb : Int.natAbs 10 = 10 := rfl
theorem Ib : Int.natAbs 2 = 2 := rfl
theorem Ac {H : Hp} {p : PySem.Addr} {o : HO} (hp : H p = none) : AH H (upd H p o) := fun b u e => by
 rw [AI (AO e hp)]; exact e
theorem AH.tup {K : PySem.W.Frag} {H H' : Hp} {a : PySem.Addr} {xs : List V} (e : AH H H') (h : SqT K H a xs) : SqT K H' a xs := by
 rcases h with (h | ⟨o, h⟩) | h
 ·exact .inl (.inl (e _ _ h))
 ·exact .inl (.inr ⟨o, e _ _ h⟩)
 ·exact .inr h
section
variable {X : Cx} {es : List Expr} {t : TA} {pos : Pos}
noncomputable def EU (t : TA) : TE := fun σ H Q => t σ H fun xs H1 => xs.length ≤ sizeLine ∧ ∀ p H', H1 p = none → AH H1 H' → H' p = some (.tup xs) → Q (.ref p) H'
noncomputable def Eb (t : TA) : TE := fun σ H Q => t σ H fun xs H1 => xs.length ≤ sizeLine ∧ ∀ p H', H1 p = none → AH H1 H' → H' p = some (.lst xs) → Q (.ref p) H'
theorem BE {x1} (h : PA X es t) : PE X (.Tuple es x1 pos) (EU t) := by
 intro pins s σ H Q I hq
 refine wpAny_Tuple_spliced (thn (h pos pins s σ H _ I hq) fun us s1 ⟨xs, H1, I1, r, z, q⟩ => ⟨by rw [← r.length]; exact z, ?_⟩)
 have hf : H1 s1.heap.objs.size = none := I1.hok.fresh (Nat.le_refl _)
 refine ⟨.ref s1.heap.objs.size, upd H1 s1.heap.objs.size (.tup xs), I1.laid (t' := s1.toks) (fun b u e => Heap.get?_push_of_some _ e) (Nat.le_refl _) ?_, rfl, q _ _ hf (Ac hf) AG⟩
 exact ⟨z, us, r, ⟨_, Heap.get?_push_size _ rfl, rfl, _, rfl⟩⟩
theorem Aa (h : PA X es t) : PE X (.List es pos) (Eb t) := by
 intro pins s σ H Q I hq
 refine wpAny_List_spliced (thn (h pos pins s σ H _ I hq) fun us s1 ⟨xs, H1, I1, r, z, q⟩ => ⟨by rw [← r.length]; exact z, ?_⟩)
 have hf : H1 s1.heap.objs.size = none := I1.hok.fresh (Nat.le_refl _)
 refine ⟨.ref s1.heap.objs.size, upd H1 s1.heap.objs.size (.lst xs), I1.laid (t' := s1.toks) (fun b u e => Heap.get?_push_of_some _ e) (Nat.le_refl _) ?_, rfl, q _ _ hf (Ac hf) AG⟩
 exact ⟨z, us, 0, r, Heap.get?_push_size _ rfl⟩
end
theorem AH.get {H H' : Hp} (s : AH H H') {b : PySem.Addr} {o : HO} (h : H b = some o) : H' b = some o := s b o h
theorem FR {α : Sort _} {p q : α → Prop} (w : α) (h1 : p w) (h2 : q w) : ∃ x, p x ∧ q x := ⟨w, h1, h2⟩
theorem exOrL {α : Sort _} {p p' q : α → Prop} (w : α) (h1 : p w) (h2 : q w) : ∃ x, (p x ∨ p' x) ∧ q x := ⟨w, .inl h1, h2⟩
theorem exOrR {α : Sort _} {p p' q : α → Prop} (w : α) (h1 : p' w) (h2 : q w) : ∃ x, (p x ∨ p' x) ∧ q x := ⟨w, .inr h1, h2⟩
section
variable {X : Cx}
theorem OpR.weak {f : Value → Value → Sem Value} {r r' : R2} (h : OpR X f r) (m : ∀ x y H Q, r' x y H Q → r x y H Q) : OpR X f r' :=
 fun pins s σ H x y v u Q I rx ry q => h pins s σ H x y v u Q I rx ry (m x y H Q q)
theorem BJ.weak {f : Value} {r r' : List V → Hp → VK → Prop} (h : BJ X f r) (m : ∀ xs H Q, r' xs H Q → r xs H Q) : BJ X f r' :=
 fun pins s σ H xs us Q I rx q => h pins s σ H xs us Q I rx (m xs H Q q)
noncomputable def EV : R2 := fun x y H Q => ∃ l b, x = .ref l ∧ y = .ref b ∧ ∃ xs, H l = some (.lst xs) ∧ ∃ zs, H b = some (.lst zs) ∧ xs.length + zs.length ≤ sizeLine ∧ ∀ p H', H p = none → AH H H' → H' p = some (.lst (xs ++ zs)) → Q (.ref p) H'
theorem E5 : OpR X (binaryOp .Add) EV := Tu.weak fun _ _ _ _ ⟨l, b, e1, e2, xs, h1, zs, h2, h3, q⟩ => ⟨l, b, xs, zs, e1, e2, h1, h2, h3, fun p hp => q p _ hp (Ac hp) AG⟩
noncomputable def CF (K : PySem.W.Frag) : List V → Hp → VK → Prop := fun xs H Q => ∃ p, xs = [.ref p] ∧ ∃ ys, SqL K H p ys ∧ ∀ l H', H l = none → AH H H' → H' l = some (.tup ys) → Q (.ref l) H'
noncomputable def Br (K : PySem.W.Frag) : List V → Hp → VK → Prop := fun xs H Q => ∃ p, xs = [.ref p] ∧ ∃ ys, (SqL K H p ys ∨ SqT K H p ys) ∧ ∀ l H', H l = none → AH H H' → H' l = some (.lst ys) → Q (.ref l) H'
theorem HG : BJ X (.type "list") (Br X.K) := Jk.weak fun _ _ _ ⟨p, e, ys, h, q⟩ => ⟨p, ys, e, h, fun l hl => q l _ hl (Ac hl) AG⟩
end
theorem T1 {c A B : Prop} [Decidable c] (hc : ¬ c) (h : B) : if c then A else B := by rw [if_neg hc]; exact h
theorem Pu {c A B : Prop} [Decidable c] (hc : c) (h : A) : if c then A else B := by rw [if_pos hc]; exact h
theorem Q8 {H H' : Hp} (h : AH H H') : True := trivial
section
variable {X : Cx}
theorem Il : BJ X (.type "int") (fun xs H Q => ∃ k, xs = [.bl k] ∧ Q (.int (if k = true then 1 else 0)) H) := L1.weak fun _ _ _ ⟨k, e, q⟩ => .inr ⟨k, e, by cases k <;> exact q⟩
end
theorem atL3 {x y z e : Int} (h0 : 0 ≤ e) (h1 : e < 3) : ∃ v : Int, atI [V.int x, V.int y, V.int z] e = some (V.int v) ∧ (v = x ∨ v = y ∨ v = z) := by
 rcases (by lia : e = 0 ∨ e = 1 ∨ e = 2) with rfl | rfl | rfl
 ·exact ⟨x, rfl, .inl rfl⟩
 ·exact ⟨y, rfl, .inr (.inl rfl)⟩
 ·exact ⟨z, rfl, .inr (.inr rfl)⟩
theorem atL4 {x y z t e : Int} (h0 : 0 ≤ e) (h1 : e < 4) : ∃ v : Int, atI [V.int x, V.int y, V.int z, V.int t] e = some (V.int v) ∧ (v = x ∨ v = y ∨ v = z ∨ v = t) := by
 rcases (by lia : e = 0 ∨ e = 1 ∨ e = 2 ∨ e = 3) with rfl | rfl | rfl | rfl
 ·exact ⟨x, rfl, .inl rfl⟩
 ·exact ⟨y, rfl, .inr (.inl rfl)⟩
 ·exact ⟨z, rfl, .inr (.inr (.inl rfl))⟩
 ·exact ⟨t, rfl, .inr (.inr (.inr rfl))⟩
theorem CI : EF .non .non = true := rfl
theorem B6 {j : Int} : EF .non (.int j) = true := rfl
theorem B9 {i : Int} : EF (.int i) .non = true := rfl
theorem CO {j : Bool} : EF .non (.bl j) = true := rfl
theorem CJ {i : Bool} : EF (.bl i) .non = true := rfl
theorem CH {j : PySem.Str} : EF .non (.str j) = true := rfl
theorem B7 {i : PySem.Str} : EF (.str i) .non = true := rfl
theorem Bo {i : Int} {j : Int} : EF (.int i) (.int j) = true := rfl
theorem CA {i : Bool} {j : Bool} : EF (.bl i) (.bl j) = true := rfl
theorem Bp {i : PySem.Str} {j : PySem.Str} : EF (.str i) (.str j) = true := rfl
theorem CB {i : Int} {j : PySem.Str} : EF (.int i) (.str j) = true := rfl
theorem CM {i : PySem.Str} {j : Int} : EF (.str i) (.int j) = true := rfl
theorem CD {i : Bool} {j : PySem.Str} : EF (.bl i) (.str j) = true := rfl
theorem CC {i : PySem.Str} {j : Bool} : EF (.str i) (.bl j) = true := rfl
end L2
set_option maxHeartbeats 4000000
namespace L2
open PySem PySem.Spec PyProof.Rows
section
variable {prog : Program} {w : World} {A : Around} {R : Result → Shared → Prop} {s : Shared}
theorem F4 {elt target iter : Expr} {ifs : List Expr} {scope : Scope} {pos : Pos} {it acc : Value} {env : Env} (I : Nat → Shared → Prop) {N : Value → Shared → Prop} (hN : N = notedBy (model prog w) A env fun e s' => R (.error e) s')
  (turn : ∀ n s, I n s → wpAny (model prog w) A (pyNext it) (fun r s₁ => match r with
   | none => R (.ok .next) s₁
   | some v => wpAny (model prog w) A (letOwnedTupleGo target it v) (fun _ s₁' => wpAny (model prog w) A (assign target env v) (fun _ s₂ =>
     wpAny (model prog w) A (forIn ifs true fun c r => if r = true then do let ok ← isTrue c env (eval c env); pure (ForInStep.yield ok) else pure (ForInStep.yield r)) (fun ok s₃ =>
      if ok = true then wpAny (model prog w) A (eval elt env) (fun x s₄ => wpAny (model prog w) A (call (.builtin "list.append") [acc, x]) (fun _ s₅ => ∃ m, m < n ∧ I m s₅) N s₄) N s₃
      else ∃ m, m < n ∧ I m s₃) N s₂) N s₁') N s₁) N s)
  (n : Nat) (h : I n s) : codeAny (model prog w) A (.compLoop (.ListComp elt [⟨target, iter, ifs, 0⟩] scope pos) 0 it acc env) R s := by
 subst hN
 refine codeAny_loop rfl I (fun n s hI => ?_) n h
 show wpAny _ A ((compTurn (.ListComp elt [⟨target, iter, ifs, 0⟩] scope pos) 0 it acc env).onRaise (fun x => do noteFrame x env; theTreesLotGoes x)) _ _ s
 refine wpAny_noted ?_
 rw [compTurn_list]
 refine wpAny_bind (wpAny_standAt (wpAny_bind (wpAny_mono (turn n s hI) (fun r s₁ h₁ => ?_) fun _ _ h' => h')))
 cases r with
 | none => exact wpAny_pure h₁
 | some v =>
  refine wpAny_bind (wpAny_mono h₁ (fun _ s₁' h₁' => ?_) fun _ _ h' => h')
  refine wpAny_bind (wpAny_mono h₁' (fun _ s₂ h₂ => wpAny_bind (wpAny_mono h₂ (fun ok s₃ h₃ => ?_) fun _ _ h' => h')) fun _ _ h' => h')
  cases ok with
  | false => exact wpAny_pure ⟨rfl, h₃⟩
  | true =>
   exact wpAny_bind (wpAny_bind (wpAny_mono h₃ (fun x s₄ h₄ => wpAny_bind (wpAny_mono h₄ (fun _ s₅ h₅ => wpAny_pure (wpAny_pure ⟨rfl, h₅⟩)) fun _ _ h' => h')) fun _ _ h' => h'))
end
noncomputable def AZ (X : Cx) (sc : Scope) (cl : List (Str × Addr)) (N : List Str) (C : Addr) (s : Shared) (H : Hp) (ex : List Addr) : Cx :=
 { X with N := N, s₀ := s, H₀ := H, env := compEnvC sc cl C X.env, outer := X.stack, stack := X.stack, ex := ex, fn := fun _ => false, pn := [], xe := fun _ _ => False }
noncomputable def AY (X : Cx) (caps : List Str) : List (Str × Addr) := caps.map fun n => (n, (X.env.cells.lookup n).getD 0)
noncomputable def Bv (σ : St) (ix : List Nat) : St := ix.map fun i => (σ[i]?).join
structure Aq (X : Cx) (sc : Scope) (x : Str) (caps : List Str) (ix : List Nat) : Prop where
 kind : sc.kind = .function
 nocell : ∀ y ∈ sc.names, y.2 ≠ .cell
 names : ∀ y ∈ sc.names, y.2 = .local → sc.names.lookup y.1 = some .local
 free : ∀ y ∈ sc.names, y.2 = .free → y.1 ∈ caps
 hx : sc.names.lookup x = some .local
 nd : (x :: caps).Nodup
 clos : closureFor sc X.env = pure (AY X caps)
 cap : caps.map X.env.kindOf = caps.map fun _ => some NameKind.cell
 rl : (caps.map fun n => (relabel sc X.env).names.lookup n) = caps.map fun _ => some NameKind.cell
 slots : (ix.map fun i => X.N[i]?) = caps.map some
theorem JF {α β : Type} {f g : α → β} {l : List α} (h : l.map f = l.map g) {a : α} (ha : a ∈ l) : f a = g a := by
 induction l with
 | nil => exact absurd ha (by simp)
 | cons b r ih =>
  rw [List.map_cons, List.map_cons, List.cons.injEq] at h
  rcases List.mem_cons.mp ha with rfl | ha
  ·exact h.1
  ·exact ih h.2 ha
theorem E1 {X : Cx} : ∀ {caps : List Str} {n : Str} {c : Addr}, (AY X caps).lookup n = some c → n ∈ caps ∧ c = (X.env.cells.lookup n).getD 0
 | [], _, _, h => by simp [AY] at h
 | a :: r, n, c, h => by
  have h : List.lookup n ((a, (X.env.cells.lookup a).getD 0) :: AY X r) = some c := h
  rw [List.lookup_cons] at h
  cases e : n == a with
  | true =>
   rw [e] at h
   have e' : n = a := by simpa using e
   subst e'
   exact ⟨List.mem_cons_self, (Option.some.inj h).symm⟩
  | false =>
   rw [e] at h
   obtain ⟨h1, h2⟩ := E1 h
   exact ⟨List.mem_cons_of_mem _ h1, h2⟩
theorem Fd {X : Cx} : ∀ {caps : List Str} {n : Str}, n ∈ caps → ∃ c, (AY X caps).lookup n = some c
 | [], _, h => absurd h (by simp)
 | a :: r, n, h => by
  show ∃ c, List.lookup n ((a, (X.env.cells.lookup a).getD 0) :: AY X r) = some c
  rw [List.lookup_cons]
  cases e : n == a with
  | true => exact ⟨_, rfl⟩
  | false =>
   have ne : n ≠ a := by simpa using e
   exact Fd ((List.mem_cons.mp h).resolve_left ne)
section
variable {X : Cx} {pins : List (Addr × Obj)} {σ : St} {H : Hp} {s : Shared} {sc : Scope} {x : Str} {caps : List Str} {ix : List Nat}
theorem Aq.cell {n : Str} {c : Addr} (S : Aq X sc x caps ix) (ok : X.Ok) (h : (AY X caps).lookup n = some c) : n ∈ caps ∧ X.env.cells.lookup n = some c := by
 obtain ⟨h1, h2⟩ := E1 h
 obtain ⟨c', e⟩ := ok.has n (.inl (JF S.cap h1))
 refine ⟨h1, ?_⟩
 rw [h2, e]; rfl
theorem Aq.isCap (S : Aq X sc x caps ix) {y : Str} (h : (relabel sc X.env).names.lookup y = some .cell ∨ (relabel sc X.env).names.lookup y = some .free) : y ∈ caps := by
 have key : ∀ k, (relabel sc X.env).names.lookup y = some k → k = .cell ∨ k = .free → y ∈ caps := fun k hk hk2 => by
  have hm := PySem.mem_of_lookup hk
  obtain ⟨⟨n, k'⟩, hn, e⟩ := List.mem_map.mp (show (y, k) ∈ sc.names.map _ from hm)
  dsimp only at e
  split at e
  ·rename_i hc
   have hk' : k' = .free := by
    simp only [Bool.and_eq_true, beq_iff_eq] at hc
    exact hc.1.1
   injection e with e1 e2
   subst e1
   exact S.free _ hn hk'
  ·injection e with e1 e2
   subst e1 e2
   rcases hk2 with rfl | rfl
   ·exact absurd rfl (S.nocell _ hn)
   ·exact S.free _ hn rfl
 rcases h with h | h
 ·exact key _ h (.inl rfl)
 ·exact key _ h (.inr rfl)
theorem Aq.ok (S : Aq X sc x caps ix) (I : Inv X pins σ H s) {fp : List Addr} {C : Addr} (hC : s.heap.objs.size ≤ C) (hf : ∀ b ∈ fp, Ez X pins H b) (hb : ∀ b ∈ fp, b < s.heap.objs.size) :
  (AZ X sc (AY X caps) (x :: caps) C s H fp).Ok where
 mod := I.ok.mod
 kind := S.kind
 glob := I.ok.glob
 blt := I.ok.blt
 above := hC
 inj := fun y z c h1 h2 => I.ok.inj y z c (S.cell I.ok h1).2 (S.cell I.ok h2).2
 has := fun y hy => Fd (S.isCap hy)
 cab := fun _ _ h => absurd h (by intro z; cases z)
 hd := I.ok.hd
 frames := I.ok.frames
 stk := .inl rfl
 exf := fun b hbf => ⟨Nat.ne_of_lt (Nat.lt_of_lt_of_le (hb b hbf) hC), fun y c h => (hf b hbf).2.2.2.2.1 y c (S.cell I.ok h).2⟩
 bs := I.bs
 bsz := Nat.le_trans I.ok.bsz I.sz
 noex := fun b o e hbf => by
  rcases (hf b hbf).2.2.2.1 with z | z
  ·exact I.ok.noex b o e z
  ·exact absurd (Nat.lt_of_lt_of_le (Heap.lt_size (I.ok.bs b o e).1) z) (Nat.lt_irrefl _)
 exfs := fun b hbf hm => by
  rcases List.mem_cons.mp (I.stkSub b hm) with z | z
  ·exact (hf b hbf).2.1 z
  ·exact (hf b hbf).2.2.1 z
 funs := I.stack
 frf := I.stkFree
theorem NX (S : Aq X sc x caps ix) : (Bv σ ix).length = caps.length := by
 have := congrArg List.length S.slots
 simpa [Bv] using this
theorem Lq : ∀ {ix : List Nat} {caps : List Str} {N : List Str} {k : Nat} {n : Str}, (ix.map fun i => N[i]?) = caps.map some → caps[k]? = some n → ∃ i, ix[k]? = some i ∧ N[i]? = some n
 | [], [], _, _, _, _, h => by simp at h
 | [], _ :: _, _, _, _, h, _ => by simp at h
 | _ :: _, [], _, _, _, h, _ => by simp at h
 | i :: ix, a :: caps, N, 0, n, h, e => by
  rw [List.map_cons, List.map_cons, List.cons.injEq] at h
  simp at e; subst e
  exact ⟨i, rfl, h.1⟩
 | i :: ix, a :: caps, N, k + 1, n, h, e => by
  rw [List.map_cons, List.map_cons, List.cons.injEq] at h
  obtain ⟨j, h1, h2⟩ := Lq (k := k) h.2 (by simpa using e)
  exact ⟨j, by simpa using h1, h2⟩
theorem Aq.start (S : Aq X sc x caps ix) (I : Inv X pins σ H s) {fp : List Addr} {C D : Addr} {h' : Heap} {m : Str → Option Value} {tk : Nat} (hf : ∀ b ∈ fp, Ez X pins H b) (hb : ∀ b ∈ fp, b < s.heap.objs.size)
  (hD : s.heap.objs.size ≤ D) (hC : s.heap.objs.size ≤ C) (hDC : D ≠ C) (k : ∀ b o, s.heap.get? b = some o → h'.get? b = some o) (hd : h'.get? D = some { cls := .type "list", data := .seq #[] 0 }) (hn : h'.Ns C m) :
  Inv (AZ X sc (AY X caps) (x :: caps) C s H fp) [] (none :: Bv σ ix) (upd H D (.lst [])) { s with heap := h', toks := tk } where
 ok := S.ok I hC hf hb
 os := rfl
 bare := I.bare
 base := Un.laid k hD (I.hok.fresh hD)
 loc := by
  refine ⟨m, hn, fun i y v h1 h2 _ => ?_⟩
  cases i with
  | zero => simp at h2
  | succ i =>
   have h1 : caps[i]? = some y := by simpa [AZ] using h1
   have h2 : (Bv σ ix)[i]? = some (some v) := by simpa using h2
   obtain ⟨j, e1, e2⟩ := Lq S.slots h1
   have h3 : σ[j]? = some (some v) := by
    unfold Bv at h2
    rw [List.getElem?_map, e1] at h2
    have h2 : (σ[j]?).join = some v := by simpa using h2
    cases q : σ[j]? with
    | none => rw [q] at h2; cases h2
    | some o => rw [q] at h2; cases o with
     | none => cases h2
     | some u => cases h2; rfl
   have hy : y ∈ caps := List.mem_of_getElem? h1
   obtain ⟨m0, hn0, hl0⟩ := I.loc
   obtain ⟨u, r, l⟩ := hl0 j y v e2 h3 (.inr (.inl (JF S.cap hy)))
   refine ⟨u, r, .inr ⟨.inl (JF S.rl hy), ?_⟩⟩
   rcases l with ⟨z, _⟩ | ⟨_, c, hc, hcell⟩
   ·have z2 : X.env.kindOf y = some .cell := JF S.cap hy
    rw [z] at z2; cases z2
   ·obtain ⟨c', hc'⟩ := Fd (X := X) hy
    have := (S.cell I.ok hc').2
    rw [hc] at this; cases this
    obtain ⟨o, ho, hdt⟩ := hcell
    exact ⟨c, hc', o, k _ _ ho, hdt⟩
 cell := fun y c h => by
  obtain ⟨v, o, ho, hdt⟩ := I.cell y c (S.cell I.ok h).2
  exact ⟨v, o, k _ _ ho, hdt⟩
 free := by
  show upd H D (.lst []) C = none
  rw [AI (Ne.symm hDC)]; exact I.hok.fresh hC
 freeC := fun y c h => by
  have h2 := (S.cell I.ok h).2
  obtain ⟨v, o, ho, _⟩ := I.cell y c h2
  rw [AI (Nat.ne_of_lt (Nat.lt_of_lt_of_le (Heap.lt_size ho) hD))]
  exact I.freeC y c h2
 pin := fun p hp => absurd (show p ∈ ([] : List (Addr × Obj)) from hp) (by simp)
 hok := I.hok.laid k hD ⟨Nat.zero_le _, [], 0, .nil, hd⟩
 len := by
  show (none :: Bv σ ix).length = (x :: caps).length
  rw [List.length_cons, List.length_cons, NX S]
theorem Aq.back (S : Aq X sc x caps ix) (I : Inv X pins σ H s) {fp : List Addr} {C : Addr} {ps : List (Addr × Obj)} {σ' : St} {H' : Hp} {s' : Shared} {h'' : Heap} (hf : ∀ b ∈ fp, Ez X pins H b) (hC : s.heap.objs.size ≤ C)
  (I' : Inv (AZ X sc (AY X caps) (x :: caps) C s H fp) ps σ' H' s') (hs : Heap.SameBut C s'.heap h'') : Inv X pins σ H' { s' with heap := h'' } := by
 have J : Inv X pins σ H' s' := I.call' (ch := fp) I'.os I'.base I'.hok I'.bare fun b hb => ⟨(hf b hb).2.2.2.1, (hf b hb).2.1, (hf b hb).2.2.2.2.1, (hf b hb).2.2.2.2.2⟩
 refine J.turned (t' := s'.toks) (it := C) (fun b o hb e => (hs.2 b hb).trans e) I'.free ?_ (.inr (Nat.le_trans I.sz hC)) (fun y c h z => ?_) fun p hp z => ?_
 ·exact Nat.ne_of_gt (Nat.lt_of_lt_of_le I.lt hC)
 ·obtain ⟨v, o, ho, _⟩ := I.cell y c h
  exact absurd (Nat.lt_of_lt_of_le (Heap.lt_size ho) (z ▸ hC)) (Nat.lt_irrefl _)
 ·obtain ⟨e, _⟩ := I.pin p hp
  exact absurd (Nat.lt_of_lt_of_le (Heap.lt_size e) (z ▸ hC)) (Nat.lt_irrefl _)
end
noncomputable def PTs (X : Cx) (ifs : List Expr) (tc : TT) : Prop :=
 ∀ (pins : List (Addr × Obj)) (s : Shared) (σ : St) (H : Hp) (Q : Bool → Hp → Prop), Inv X pins σ H s → tc σ H Q →
  wpAny (model X.prog X.w) X.A (forIn ifs true fun c r => if r = true then do let ok ← isTrue c X.env (eval c X.env); pure (ForInStep.yield ok) else pure (ForInStep.yield r)) (TP X pins σ Q) X.xe s
noncomputable def CU : TT := fun _ H Q => Q true H
theorem B8 {X : Cx} : PTs X [] CU := fun _ _ _ H _ I h => wpAny_tests_nil ⟨H, I, h⟩
theorem Od {X : Cx} {c : Expr} {t : TT} (h : PT X c t) : PTs X [c] t := fun pins s σ H Q I q => wpAny_tests_one (h pins s σ H Q I q)
noncomputable def CW (te : TE) (tc : TT) (caps : St) (J : It) (D : Addr) (H1 : Hp) (Q : Hp → Prop) : Prop :=
 ∃ W : Nat → Nat → List V → Hp → Prop, (∃ m, W 0 m [] (upd H1 D (.lst []))) ∧ ∀ i m ys H, W i m ys H →
  (J.stop i H ∧ Q H) ∨ (J.go i H ∧ ∀ v H', J.yld i H v H' → tc (some v :: caps) H' fun b H2 =>
   if b = true then te (some v :: caps) H2 fun y H3 => H3 D = some (.lst ys) ∧ ys.length < sizeLine ∧ ∃ m', m' < m ∧ W (i + 1) m' (ys ++ [y]) (upd H3 D (.lst (ys ++ [y])))
   else ∃ m', m' < m ∧ W (i + 1) m' ys H2)
noncomputable def DY (wi : TI) (te : TE) (tc : TT) (ix : List Nat) : TE := fun σ H Q => wi σ H fun J H1 => ∀ D, H1 D = none → CW te tc (Bv σ ix) J D H1 fun H' => Q (.ref D) H'
theorem A3 {M : Model} {A : Around} {α : Type} {t : Sem α} {Q : α → Shared → Prop} {E : Value → Shared → Prop} {s : Shared} (h : wpAny M A t Q (fun _ _ => False) s) : wpAny M A t Q E s := wpAny_mono h (fun _ _ q => q) fun _ _ z => z.elim
section
variable {X : Cx} {pins : List (Addr × Obj)} {σ : St} {H : Hp} {s : Shared} {sc : Scope} {x : Str} {caps : List Str} {ix : List Nat}
theorem Gm {elt iter : Expr} {px pos : Pos} {ifs : List Expr} {te : TE} {tc : TT} {J : It} {fp : List Addr} {it : Addr} {tn : Nat → Heap → Prop} {QH : Addr → Hp → Prop} {RR : Value → Addr → Result → Shared → Prop} {E : Value → Shared → Prop}
  (hc : X.calm = true) (S : Aq X sc x caps ix) (he : ∀ C s H ex, PE (AZ X sc (AY X caps) (x :: caps) C s H ex) elt te) (ht : ∀ C s H ex, PTs (AZ X sc (AY X caps) (x :: caps) C s H ex) ifs tc)
  (I : Inv X pins σ H s) (T : K4 X.prog X.w X.K (.Name x px) J fp it tn) (st : tn 0 s.heap) (hf : ∀ b ∈ fp, Ez X pins H b) (h : ∀ D, H D = none → CW te tc (Bv σ ix) J D H (QH D))
  (hRR : ∀ D C (ps : List (Addr × Obj)) σ' H' s', s.heap.objs.size ≤ C → Inv (AZ X sc (AY X caps) (x :: caps) C s H fp) ps σ' H' s' → QH D H' → RR (.ref D) C (.ok .next) s') :
  wpAny (model X.prog X.w) X.A (newList []) (fun acc s₃ => wpAny (model X.prog X.w) X.A (newFunctionEnv sc X.env.globals (AY X caps) [] X.env.qual none .none (some X.env)) (fun cenv s₄ =>
   codeAny (model X.prog X.w) X.A (.compStart (.ListComp elt [⟨.Name x px, iter, ifs, 0⟩] sc pos) 0 (.ref it) acc { cenv with scope := relabel sc X.env }) (RR acc cenv.locals) s₄) E s₃) E s := by
 refine wpAny_newObj_type (wpAny_newFunctionEnv S.nocell (by intro y hy; simp at hy) (fun h₁ hns₁ hsb₁ => ?_) S.kind)
 dsimp only at hns₁ hsb₁ ⊢
 generalize hH2 : s.heap.push { cls := .type "list", dict := none, data := .seq ([] : List Value).toArray } = H2 at hns₁ hsb₁ ⊢
 have hC : H2.objs.size = s.heap.objs.size + 1 := by rw [← hH2, Heap.size_push]
 have hDC : s.heap.objs.size ≠ H2.objs.size := by rw [hC]; exact Nat.ne_of_lt (Nat.lt_succ_self _)
 have hCle : s.heap.objs.size ≤ H2.objs.size := by rw [hC]; exact Nat.le_succ _
 have below : ∀ b, b < s.heap.objs.size → b ≠ H2.objs.size := fun b hb => by rw [hC]; exact Nat.ne_of_lt (Nat.lt_succ_of_lt hb)
 have old : ∀ b o, s.heap.get? b = some o → h₁.get? b = some o := fun b o e => hsb₁.extBut b o (below b (Heap.lt_size e)) (Heap.get?_push_of_some _ (hH2 ▸ Heap.get?_push_of_some _ e))
 have hacc : h₁.get? s.heap.objs.size = some { cls := .type "list", data := .seq #[] 0 } := hsb₁.extBut _ _ hDC (Heap.get?_push_of_some _ (hH2 ▸ Heap.get?_push_size _ rfl))
 have hb : ∀ b ∈ fp, b < s.heap.objs.size := fun b hbf => by obtain ⟨o, e, _⟩ := T.obj _ _ st b hbf; exact Heap.lt_size e
 have I1 := S.start (tk := s.toks + ([] : List (Str × Value)).length) I hf hb (Nat.le_refl _) hCle hDC old hacc hns₁
 obtain ⟨W, ⟨m0, w0⟩, turn⟩ := h _ (I.hok.fresh (Nat.le_refl _))
 have stat : ∀ {H' : Hp}, (∀ b ∈ fp, H' b = none) → ∀ b ∈ fp, Ez (AZ X sc (AY X caps) (x :: caps) H2.objs.size s H fp) [] H' b := fun {H'} hn b hbf =>
  ⟨hn b hbf, (I1.ok.exf b hbf).1, I1.ok.exfs b hbf, .inl hbf, (I1.ok.exf b hbf).2, fun p hp => absurd (show p ∈ ([] : List (Addr × Obj)) from hp) (by simp)⟩
 have st1 : tn 0 h₁ := T.keep _ _ _ st fun b hbf o e => old b o e
 have fr1 : ∀ b ∈ fp, upd H s.heap.objs.size (.lst []) b = none := fun b hbf => by
  rw [AI (Nat.ne_of_lt (hb b hbf))]; exact (hf b hbf).1
 have loop : ∀ s₃ : Shared, s₃ = { s with heap := h₁, toks := s.toks + ([] : List (Str × Value)).length } →
   codeAny (model X.prog X.w) X.A (.compLoop (.ListComp elt [⟨.Name x px, iter, ifs, 0⟩] sc pos) 0 (.ref it) (.ref s.heap.objs.size) (compEnvC sc (AY X caps) H2.objs.size X.env))
    (RR (.ref s.heap.objs.size) H2.objs.size) s₃ := by
  rintro s₃ rfl
  refine F4 (fun n s' => ∃ i ys H' ov, Inv (AZ X sc (AY X caps) (x :: caps) H2.objs.size s H fp) [] (ov :: Bv σ ix) H' s' ∧ tn i s'.heap ∧ (∀ b ∈ fp, H' b = none) ∧ W i n ys H') rfl ?_ m0 ⟨0, [], _, none, I1, st1, fr1, w0⟩
  rintro n s3 ⟨i, ys, H3, ov, I3, st3, fr3, w3⟩
  rcases turn i n ys H3 w3 with ⟨stop, q⟩ | ⟨go, step⟩
  ·refine A3 (thn (T.done (AZ X sc (AY X caps) (x :: caps) H2.objs.size s H fp) rfl rfl rfl hc i [] s3 _ H3 _ I3 (stat fr3) st3 stop) fun r s4 zq => ?_)
   obtain ⟨hr, I4⟩ := zq
   subst hr
   exact hRR _ _ _ _ _ _ hCle I4 q
  ·refine A3 (thn (T.item (AZ X sc (AY X caps) (x :: caps) H2.objs.size s H fp) rfl rfl rfl hc i [] s3 _ H3 _ I3 (stat fr3) st3 go) fun r s4 zq => ?_)
   obtain ⟨u, hr, h4⟩ := zq
   subst hr
   refine A3 (thn h4 fun _ s5 zq => ?_)
   obtain ⟨v, H5, I5, r5, y5, st5, fr5⟩ := zq
   have I5' := I5.pinned (stat fr5) (T.obj _ _ st5)
   have hg : PG (AZ X sc (AY X caps) (x :: caps) H2.objs.size s H fp) (.Name x px) (B4 0) := Je (i := 0) S.nd rfl (.inl (lookup_relabel_local S.hx)) (.inr (lookup_relabel_local S.hx))
   have again : ∀ {s7 : Shared} {H7 : Hp} {ys' : List V}, Inv (AZ X sc (AY X caps) (x :: caps) H2.objs.size s H fp) ([] ++ Ep fp s5.heap) (some v :: Bv σ ix) H7 s7 → (∃ m', m' < n ∧ W (i + 1) m' ys' H7) →
     ∃ m, m < n ∧ ∃ i ys H' ov, Inv (AZ X sc (AY X caps) (x :: caps) H2.objs.size s H fp) [] (ov :: Bv σ ix) H' s7 ∧ tn i s7.heap ∧ (∀ b ∈ fp, H' b = none) ∧ W i m ys H' := fun {s7 H7 ys'} I7 ⟨m', hm, w7⟩ => by
    refine ⟨m', hm, i + 1, ys', H7, some v, I7.unpinned, T.keep _ _ _ st5 fun b hb o e => (I7.pin (b, o) (List.mem_append_right _ (List.mem_append_right _ (BZ hb e)))).1, fun b hb => ?_, w7⟩
    obtain ⟨o, e, d⟩ := T.obj _ _ st5 b hb
    exact (I7.pin (b, o) (List.mem_append_right _ (List.mem_append_right _ (BZ hb e)))).2.1
   refine A3 (thn (hg _ s5 _ H5 v u (fun σ' H' => σ' = some v :: Bv σ ix ∧ H' = H5) I5' r5 ⟨rfl, rfl⟩) fun _ s6 zq => ?_)
   obtain ⟨σ6, H6, I6, e6, e6'⟩ := zq
   subst e6 e6'
   refine A3 (thn (ht _ _ _ _ _ s6 _ H6 _ I6 (step v H6 y5)) fun ok s7 zq => ?_)
   obtain ⟨H7, I7, q7⟩ := zq
   cases ok with
   | false => exact again I7 (by simpa using q7)
   | true =>
    rw [if_pos rfl] at q7
    rw [if_pos rfl]
    refine A3 (thn (he _ _ _ _ _ s7 _ H7 _ I7 q7) fun yv s8 zq => ?_)
    obtain ⟨y, H8, I8, r8, hD8, hz8, q8⟩ := zq
    refine A3 (thn (Fs _ s8 _ H8 (.ref s.heap.objs.size) [y] _ [yv] (fun _ H9 => H9 = upd H8 s.heap.objs.size (.lst (ys ++ [y]))) I8 rfl (.cons r8 .nil) ⟨_, _, _, rfl, rfl, hD8, hz8, rfl⟩) fun _ s9 zq => ?_)
    obtain ⟨_, H9, I9, _, e9⟩ := zq
    subst e9
    exact again I9 q8
 exact codeAny_compStart_list (loop _ rfl) (T.self _ 0 _ _ _ st1 (loop _ rfl))
theorem PK (I : Inv X pins σ H s) {C : Addr} (hC : s.heap.objs.size ≤ C) {σ2 : St} {H' : Hp} {s'' : Shared} {h'' : Heap} (J : Inv X pins σ2 H' s'') (hn : H' C = none) (hs : Heap.SameBut C s''.heap h'') : Inv X pins σ2 H' { s'' with heap := h'' } := by
 refine J.turned (t' := s''.toks) (it := C) (fun b o hb e => (hs.2 b hb).trans e) hn ?_ (.inr (Nat.le_trans I.sz hC)) (fun y c h z => ?_) fun p hp z => ?_
 ·exact Nat.ne_of_gt (Nat.lt_of_lt_of_le I.lt hC)
 ·obtain ⟨v, o, ho, _⟩ := I.cell y c h
  exact absurd (Nat.lt_of_lt_of_le (Heap.lt_size ho) (z ▸ hC)) (Nat.lt_irrefl _)
 ·obtain ⟨e, _⟩ := I.pin p hp
  exact absurd (Nat.lt_of_lt_of_le (Heap.lt_size e) (z ▸ hC)) (Nat.lt_irrefl _)
theorem Cc {elt iter : Expr} {px pos : Pos} {ifs : List Expr} {wi : TI} {te : TE} {tc : TT} (hc : X.calm = true) (S : Aq X sc x caps ix) (hi : PI X (.Name x px) iter wi)
  (he : ∀ C s H ex, PE (AZ X sc (AY X caps) (x :: caps) C s H ex) elt te) (ht : ∀ C s H ex, PTs (AZ X sc (AY X caps) (x :: caps) C s H ex) ifs tc)
  (hs : ∀ x, foldedSetIterable iter X.env x = pure x := by intro _; rfl) : PE X (.ListComp elt [⟨.Name x px, iter, ifs, 0⟩] sc pos) (DY wi te tc ix) := by
 intro pins s σ H Q I h
 rw [eval_ListComp]
 refine wpAny_comprehension_free (use := none) rfl hs S.clos S.kind S.names (thn (hi pins s σ H _ I h) fun v s1 h1 => thn h1 fun itv s2 h2 => ?_)
 obtain ⟨it, fp, tn, J, H2, e, I2, T, st2, f2, q⟩ := h2
 subst e
 refine Gm (RR := fun acc C => compPost (model X.prog X.w) X.A X.xe none (EP X pins σ Q) acc C) (QH := fun D H' => Q (.ref D) H') hc S he ht I2 T st2 f2 q ?_
 intro D C ps σ' H' s' hC I' hq
 obtain ⟨m, hn, _⟩ := I'.loc
 exact ⟨m, hn, fun h'' hs => ⟨.ref D, H', S.back I2 f2 hC I' hs, rfl, hq⟩⟩
theorem LW {i : Nat} {y : Str} {py spos : Pos} {elt iter : Expr} {px pos : Pos} {ifs : List Expr} {wi : TI} {te : TE} {tc : TT} (hc : X.calm = true) (nd : X.N.Nodup) (hy : X.N[i]? = some y) (hl : Loc X.env.scope y) (S : Aq X sc x caps ix) (hi : PI X (.Name x px) iter wi)
  (he : ∀ C s H ex, PE (AZ X sc (AY X caps) (x :: caps) C s H ex) elt te) (ht : ∀ C s H ex, PTs (AZ X sc (AY X caps) (x :: caps) C s H ex) ifs tc)
  (hsw : swapsWith (.ListComp elt [⟨.Name x px, iter, ifs, 0⟩] sc pos) (some (.Name y py)) spos.line X.env = pure true := by rfl)
  (hs : ∀ x, foldedSetIterable iter X.env x = pure x := by intro _; rfl) (hf : X.fn y = true ∨ X.env.scope.names.lookup y = some .local := by first | exact .inl rfl | exact .inr rfl | assumption) :
  PS X (.Assign [.Name y py] (.ListComp elt [⟨.Name x px, iter, ifs, 0⟩] sc pos) spos) (IM (DY wi te tc ix) (B4 i)) := by
 intro pins s σ H D I h
 rw [exec_Assign_Name_used _ _ _ _ hsw]
 refine wpAny_bind (wpAny_standAt (wpAny_bind ?_))
 show wpAny _ X.A (do let _ ← comprehension (.ListComp elt [⟨.Name x px, iter, ifs, 0⟩] sc pos) sc X.env _ (newList []) false (eval iter X.env) (some (assign (.Name y py) X.env))) _ _ s
 refine wpAny_bind (wpAny_mono (wpAny_comprehension_free (use := some (assign (.Name y py) X.env)) (Q := fun _ s' => SP X pins D .next s') rfl hs S.clos S.kind S.names
  (thn (hi pins s σ H _ I h) fun v s1 h1 => thn h1 fun itv s2 h2 => ?_)) (fun _ s' hq => wpAny_pure (wpAny_pure hq)) fun _ _ e => e)
 obtain ⟨it, fp, tn, J, H2, e, I2, T, st2, f2, q⟩ := h2
 subst e
 refine Gm (RR := fun acc C => compPost (model X.prog X.w) X.A X.xe (some (assign (.Name y py) X.env)) (fun _ s' => SP X pins D .next s') acc C) (QH := fun L H' => D.nx (σ.set i (some (.ref L))) H') hc S he ht I2 T st2 f2 q ?_
 intro L C ps σ' H' s' hC I' hq
 show wpAny _ X.A (assign (.Name y py) X.env (.ref L)) _ _ s'
 have J := S.back I2 f2 hC I' (Heap.SameBut.refl ..)
 refine wpAny_assign_Name (Ip (v := .ref L) (u := .ref L) J nd hy hl rfl (fun s'' I'' ⟨a, hsb, ha⟩ => ?_) hf)
 obtain ⟨m, hn, _⟩ := I'.loc
 have haC : C ≠ a := by
  rcases ha with z | z
  ·rw [z]; exact Nat.ne_of_gt (Nat.lt_of_lt_of_le I2.lt hC)
  ·obtain ⟨v, o, ho, _⟩ := I2.cell y a z
   exact Nat.ne_of_gt (Nat.lt_of_lt_of_le (Heap.lt_size ho) hC)
 exact ⟨m, hn.sameBut hsb haC, fun h'' hs'' => ⟨_, H', PK I2 hC I'' I'.free hs'', hq⟩⟩
end
noncomputable def GF (n i : Nat) (ys : List V) (D : Addr) (Pv : Nat → List V → Hp → Prop) (y : V) (H3 : Hp) : Prop :=
 H3 D = some (.lst ys) ∧ ys.length < sizeLine ∧ ∃ m', m' < n - i ∧ m' = n - (i + 1) ∧ i + 1 ≤ n ∧ (ys ++ [y]).length = i + 1 ∧ Pv (i + 1) (ys ++ [y]) (upd H3 D (.lst (ys ++ [y])))
theorem GF.of {n i : Nat} {ys : List V} {D : Addr} {Pv : Nat → List V → Hp → Prop} {y : V} {H3 : Hp} (hn : n ≤ sizeLine) (hi : i < n) (hl : ys.length = i) (h1 : H3 D = some (.lst ys)) (h2 : Pv (i + 1) (ys ++ [y]) (upd H3 D (.lst (ys ++ [y])))) : GF n i ys D Pv y H3 :=
 ⟨h1, by lia, _, by lia, rfl, hi, by rw [List.length_append, hl]; rfl, h2⟩
theorem Fa {K : PySem.W.Frag} {a : Addr} {xs : List V} {te : TE} {caps : St} {D : Addr} {H1 : Hp} {Q : Hp → Prop} (Pv : Nat → List V → Hp → Prop) (h0 : Pv 0 [] (upd H1 D (.lst []))) (hl : ∀ i ys H, i ≤ xs.length → Pv i ys H → SqL K H a xs)
  (hs : ∀ i x ys H, xs[i]? = some x → ys.length = i → Pv i ys H → te (some x :: caps) H (GF xs.length i ys D Pv))
  (hd : ∀ ys H, ys.length = xs.length → Pv xs.length ys H → Q H) : CW te CU caps (Itl K a) D H1 Q := by
 refine ⟨fun i m ys H => m = xs.length - i ∧ i ≤ xs.length ∧ ys.length = i ∧ Pv i ys H, ⟨xs.length, rfl, Nat.zero_le _, rfl, h0⟩, ?_⟩
 rintro i m ys H ⟨rfl, hi, hy, p⟩
 have q := hl i ys H hi p
 by_cases hlt : i < xs.length
 ·refine .inr ⟨⟨xs, xs[i], q, by simp [hlt]⟩, fun v H' y => ?_⟩
  obtain ⟨e, y⟩ := y
  subst e
  unfold CU
  dsimp only
  rw [if_pos rfl]
  exact hs i v ys _ (y xs q) hy p
 ·have e : i = xs.length := by lia
  subst e
  exact .inl ⟨⟨xs, q, by simp⟩, hd ys H hy p⟩
theorem CG {K : PySem.W.Frag} {a : Addr} {xs : List V} {te : TE} {tc : TT} {caps : St} {D : Addr} {H1 : Hp} {Q : Hp → Prop} (Pv : Nat → List V → Hp → Prop) (h0 : Pv 0 [] (upd H1 D (.lst []))) (hl : ∀ i ys H, i ≤ xs.length → Pv i ys H → SqL K H a xs)
  (hs : ∀ i x ys H, xs[i]? = some x → Pv i ys H → tc (some x :: caps) H fun b H2 =>
   if b = true then te (some x :: caps) H2 fun y H3 => H3 D = some (.lst ys) ∧ ys.length < sizeLine ∧ ∃ m', m' < xs.length - i ∧ m' = xs.length - (i + 1) ∧ i + 1 ≤ xs.length ∧ Pv (i + 1) (ys ++ [y]) (upd H3 D (.lst (ys ++ [y])))
   else ∃ m', m' < xs.length - i ∧ m' = xs.length - (i + 1) ∧ i + 1 ≤ xs.length ∧ Pv (i + 1) ys H2)
  (hd : ∀ ys H, Pv xs.length ys H → Q H) : CW te tc caps (Itl K a) D H1 Q := by
 refine ⟨fun i m ys H => m = xs.length - i ∧ i ≤ xs.length ∧ Pv i ys H, ⟨xs.length, rfl, Nat.zero_le _, h0⟩, ?_⟩
 rintro i m ys H ⟨rfl, hi, p⟩
 have q := hl i ys H hi p
 by_cases hlt : i < xs.length
 ·refine .inr ⟨⟨xs, xs[i], q, by simp [hlt]⟩, fun v H' y => ?_⟩
  obtain ⟨e, y⟩ := y
  subst e
  exact hs i v ys _ (y xs q) p
 ·have e : i = xs.length := by lia
  subst e
  exact .inl ⟨⟨xs, q, by simp⟩, hd ys H p⟩
theorem AH.updFresh {H H3 : Hp} {D : Addr} {o : HO} (s : AH H H3) (hD : H D = none) : AH H (L2.upd H3 D o) := fun b u e => by
 rw [AI (AO e hD)]; exact s b u e
theorem Hc {K : PySem.W.Frag} {a : Addr} {xs : List V} {te : TE} {caps : St} {D : Addr} {H1 : Hp} {Q : Hp → Prop} (hz : xs.length ≤ sizeLine) (hD : H1 D = none) (hl : SqL K H1 a xs) (f : V → V)
  (hs : ∀ x H (R : VK), x ∈ xs → AH H1 H → R (f x) H → te (some x :: caps) H R)
  (hd : ∀ H, AH H1 H → H D = some (.lst (xs.map f)) → Q H) : CW te CU caps (Itl K a) D H1 Q := by
 refine Fa (xs := xs) (fun i ys H => AH H1 H ∧ H D = some (.lst ys) ∧ ys = (xs.take i).map f) ⟨Ac hD, AG, rfl⟩ (fun _ _ H _ ⟨s1, _, _⟩ => s1.seq hl) ?_ ?_
 ·rintro i x ys H hx hy ⟨s1, e1, e2⟩
  have hi : i < xs.length := (List.getElem?_eq_some_iff.mp hx).1
  refine hs x H _ (List.mem_of_getElem? hx) s1 (GF.of hz hi hy e1 ⟨s1.updFresh hD, AG, ?_⟩)
  rw [List.take_succ, hx, List.map_append, e2]; rfl
 ·rintro ys H hy ⟨s1, e1, e2⟩
  rw [List.take_length] at e2
  subst e2
  exact hd H s1 e1
open PySem.W
noncomputable def KOk (n : Nat) (lt : Nat → Nat → Bool) {α : Type} : KasT α → (α → Prop) → Prop
 | .ret a, Q => Q a
 | .ask i j k, Q => i < n ∧ j < n ∧ KOk n lt (k (lt i j)) Q
theorem KOk.bind {n : Nat} {lt : Nat → Nat → Bool} {α β : Type} {f : α → KasT β} {Q : β → Prop} : ∀ {t : KasT α}, KOk n lt t (fun a => KOk n lt (f a) Q) → KOk n lt (t.bind f) Q
 | .ret _, h => h
 | .ask _ _ k, h => ⟨h.1, h.2.1, KOk.bind (t := k _) h.2.2⟩
theorem KOk.mono {n : Nat} {lt : Nat → Nat → Bool} {α : Type} {Q Q' : α → Prop} (hq : ∀ a, Q a → Q' a) : ∀ {t : KasT α}, KOk n lt t Q → KOk n lt t Q'
 | .ret _, h => hq _ h
 | .ask _ _ k, h => ⟨h.1, h.2.1, KOk.mono hq (t := k _) h.2.2⟩
theorem KOk.wp {n : Nat} {lt : Nat → Nat → Bool} {α : Type} {cmp : Nat → Nat → (Bool → Shared → Prop) → Shared → Prop} {Q : α → Shared → Prop} {s : Shared} (hc : ∀ i j C, i < n → j < n → C (lt i j) s → cmp i j C s) : ∀ {t : KasT α}, KOk n lt t (fun a => Q a s) → t.kasWp cmp Q s
 | .ret _, h => h
 | .ask i j k, h => hc i j _ h.1 h.2.1 (KOk.wp hc (t := k _) h.2.2)
structure STO (n : Nat) (lt : Nat → Nat → Bool) : Prop where
 tri : ∀ i j, i < n → j < n → i ≠ j → lt i j = true ∨ lt j i = true
 asym : ∀ i j, lt i j = true → lt j i = false
 trans : ∀ i j k, lt i j = true → lt j k = true → lt i k = true
section
variable {n : Nat} {lt : Nat → Nat → Bool} {p : Array Nat}
noncomputable def at0 (p : Array Nat) (i : Nat) : Nat := p.getD i 0
structure PR (n : Nat) (p : Array Nat) : Prop where
 pm : p.Perm (List.range n).toArray
theorem PR.size (h : PR n p) : p.size = n := by simpa using h.pm.size_eq
theorem PR.bd (h : PR n p) {i : Nat} (hi : i < n) : at0 p i < n := by
 have hs := h.size
 have hm : p[i]'(by lia) ∈ p := Array.getElem_mem _
 have := (h.pm.mem_iff).mp hm
 have e : at0 p i = p[i]'(by lia) := by unfold at0; rw [Array.getD_eq_getD_getElem?, Array.getElem?_eq_getElem (by lia)]; rfl
 rw [e]
 simpa using this
theorem PR.inj (h : PR n p) {i j : Nat} (hi : i < n) (hj : j < n) (e : at0 p i = at0 p j) : i = j := by
 have hs := h.size
 have hnd : p.toList.Nodup := by
  have hp : p.toList.Perm (List.range n) := by simpa using Array.perm_iff_toList_perm.mp h.pm
  exact hp.nodup_iff.mpr List.nodup_range
 have ei : at0 p i = p.toList[i]'(by simpa using (by lia : i < p.size)) := by unfold at0; rw [Array.getD_eq_getD_getElem?, Array.getElem?_eq_getElem (by lia)]; simp
 have ej : at0 p j = p.toList[j]'(by simpa using (by lia : j < p.size)) := by unfold at0; rw [Array.getD_eq_getD_getElem?, Array.getElem?_eq_getElem (by lia)]; simp
 rw [ei, ej] at e
 exact (List.getElem_inj hnd).mp e
noncomputable def Srt (lt : Nat → Nat → Bool) (p : Array Nat) (k : Nat) : Prop := ∀ i, i + 1 < k → lt (at0 p i) (at0 p (i + 1)) = true
noncomputable def Dsc (lt : Nat → Nat → Bool) (p : Array Nat) (k : Nat) : Prop := ∀ i, i + 1 < k → lt (at0 p (i + 1)) (at0 p i) = true
theorem Srt.all (S : STO n lt) {k : Nat} (h : Srt lt p k) : ∀ {i j : Nat}, i < j → j < k → lt (at0 p i) (at0 p j) = true := by
 intro i j hij hj
 induction j with
 | zero => lia
 | succ j ih =>
  by_cases e : i = j
  ·subst e; exact h i hj
  ·exact S.trans _ _ _ (ih (by lia) (by lia)) (h j hj)
theorem LB (S : STO n lt) (hp : PR n p) : ∀ (f a : Nat), 1 ≤ a → a + f ≤ n → Srt lt p a → KOk n lt (kas_asc p f a) (fun m => a ≤ m ∧ m ≤ a + f ∧ Srt lt p m ∧ (m < a + f → lt (at0 p m) (at0 p (m - 1)) = true))
 | 0, a, h1, h2, hs => ⟨Nat.le_refl _, Nat.le_refl _, hs, fun h => by lia⟩
 | f + 1, a, h1, h2, hs => by
  refine ⟨hp.bd (i := a) (by lia), hp.bd (i := a - 1) (by lia), ?_⟩
  cases c : lt (p.getD a 0) (p.getD (a - 1) 0) with
  | true => exact ⟨Nat.le_refl _, by lia, hs, fun _ => c⟩
  | false =>
   have hs' : Srt lt p (a + 1) := fun i hi => by
    by_cases e : i + 1 = a
    ·have e' : i = a - 1 := by lia
     subst e'
     rcases S.tri (at0 p (a - 1)) (at0 p a) (hp.bd (by lia)) (hp.bd (by lia)) (fun z => by have := hp.inj (by lia) (by lia) z; lia) with z | z
     ·rw [show a - 1 + 1 = a by lia]; exact z
     ·have z' : lt (p.getD a 0) (p.getD (a - 1) 0) = true := z
      rw [c] at z'; cases z'
    ·exact hs i (by lia)
   refine KOk.mono (fun m hm => ?_) (LB S hp f (a + 1) (by lia) (by lia) hs')
   exact ⟨by lia, by lia, hm.2.2.1, fun h => hm.2.2.2 (by lia)⟩
theorem Ls (S : STO n lt) (hp : PR n p) : ∀ (f a : Nat), 1 ≤ a → a + f ≤ n → Dsc lt p a → KOk n lt (kas_desc f p a 0) (fun r => r.1 = p ∧ r.2.2 = 0 ∧ a ≤ r.2.1 ∧ r.2.1 ≤ a + f ∧ Dsc lt p r.2.1)
 | 0, a, h1, h2, hs => ⟨rfl, rfl, Nat.le_refl _, Nat.le_refl _, hs⟩
 | f + 1, a, h1, h2, hs => by
  refine ⟨hp.bd (i := a) (by lia), hp.bd (i := a - 1) (by lia), ?_⟩
  cases c : lt (p.getD a 0) (p.getD (a - 1) 0) with
  | true =>
   dsimp only
   rw [if_pos rfl, if_neg (by lia)]
   have hs' : Dsc lt p (a + 1) := fun i hi => by
    by_cases e : i + 1 = a
    ·have e' : i = a - 1 := by lia
     subst e'
     rw [show a - 1 + 1 = a by lia]; exact c
    ·exact hs i (by lia)
   refine KOk.mono (fun m hm => ?_) (Ls S hp f (a + 1) (by lia) (by lia) hs')
   exact ⟨hm.1, hm.2.1, by lia, by lia, hm.2.2.2.2⟩
  | false =>
   dsimp only
   rw [if_neg (by simp)]
   refine ⟨hp.bd (i := a - 1) (by lia), hp.bd (i := a) (by lia), ?_⟩
   have d : lt (p.getD (a - 1) 0) (p.getD a 0) = true := by
    rcases S.tri (at0 p (a - 1)) (at0 p a) (hp.bd (by lia)) (hp.bd (by lia)) (fun z => by have := hp.inj (by lia) (by lia) z; lia) with z | z
    ·exact z
    ·have z' : lt (p.getD a 0) (p.getD (a - 1) 0) = true := z
     rw [c] at z'; cases z'
   rw [d]
   dsimp only
   rw [if_pos rfl]
   exact ⟨rfl, rfl, Nat.le_refl _, Nat.le_add_right _ _, hs⟩
theorem N3 (hp : PR n p) {m k : Nat} (hm : m ≤ n) (hk : k < m) : at0 (kas_rev p 0 m) k = at0 p (m - 1 - k) := by
 have hs := hp.size
 unfold at0 kas_rev
 rw [Array.getD_eq_getD_getElem?, Array.getD_eq_getD_getElem?, getElem?_mirror_all (by lia), if_pos ⟨by lia, hk⟩]
 rw [show 0 + m - 1 - k = m - 1 - k by lia]
theorem QS (S : STO n lt) (hp : PR n p) {m : Nat} (hm : m ≤ n) (h : Dsc lt p m) : PR n (kas_rev p 0 m) ∧ Srt lt (kas_rev p 0 m) m := by
 refine ⟨⟨(mirror_perm ..).trans hp.pm⟩, fun i hi => ?_⟩
 rw [N3 hp hm (by lia), N3 hp hm (by lia)]
 have := h (m - 1 - (i + 1)) (by lia)
 rw [show m - 1 - (i + 1) + 1 = m - 1 - i by lia] at this
 exact this
theorem NT (S : STO n lt) (hp : PR n p) {m : Nat} (h1 : 1 ≤ m) (hm : m ≤ n) (h : Dsc lt p m) : KOk n lt (kas_tail3 m n p) (fun r => PR n r.2 ∧ r.1 ≤ n ∧ 1 ≤ r.1 ∧ Srt lt r.2 r.1) := by
 obtain ⟨hp', hs⟩ := QS S hp hm h
 refine KOk.bind (KOk.mono (fun k hk => ?_) (LB S hp' (n - m) m h1 (by lia) hs))
 exact ⟨hp', by lia, by lia, hk.2.2.1⟩
theorem Ki (S : STO n lt) (hp : PR n p) (h2 : 2 ≤ n) (h : lt (at0 p 1) (at0 p 0) = true) : KOk n lt (kas_descPart 1 n p) (fun r => PR n r.2 ∧ r.1 ≤ n ∧ 1 ≤ r.1 ∧ Srt lt r.2 r.1) := by
 have hs : Dsc lt p 2 := fun i hi => by
  have e : i = 0 := by lia
  subst e; exact h
 refine KOk.bind (KOk.mono (fun r hr => ?_) (Ls S hp (n - (1 + 1)) (1 + 1) (by lia) (by lia) hs))
 obtain ⟨e1, e2, h3, h4, h5⟩ := hr
 rw [e2, if_neg (by lia), e1]
 exact NT S hp (by lia) (by lia) h5
theorem Np (S : STO n lt) (hp : PR n p) (h2 : 2 ≤ n) : KOk n lt (kas_count n p) (fun r => PR n r.2 ∧ r.1 ≤ n ∧ 1 ≤ r.1 ∧ Srt lt r.2 r.1) := by
 refine KOk.bind (KOk.mono (fun m hm => ?_) (LB S hp (n - 1) 1 (Nat.le_refl _) (by lia) (fun i hi => by lia)))
 obtain ⟨m1, m2, hs, hstop⟩ := hm
 by_cases e : m = n
 ·rw [if_pos (by simp [e])]
  exact ⟨hp, by lia, m1, hs⟩
 ·rw [if_neg (by simp [e])]
  by_cases e1 : m > 1
  ·rw [if_pos e1]
   refine ⟨hp.bd (i := 0) (by lia), hp.bd (i := m - 1) (by lia), ?_⟩
   have c : lt (p.getD 0 0) (p.getD (m - 1) 0) = true := Srt.all S hs (i := 0) (j := m - 1) (by lia) (by lia)
   rw [c]
   dsimp only
   rw [if_pos rfl]
   exact ⟨hp, by lia, m1, hs⟩
  ·rw [if_neg e1]
   have e2 : m = 1 := by lia
   subst e2
   exact Ki S hp h2 (hstop (by lia))
theorem Gz (S : STO n lt) (hp : PR n p) {k : Nat} (hk : k < n) (hs : Srt lt p k) : ∀ (f l r : Nat), r - l ≤ f → l ≤ r → r ≤ k → (∀ i, i < l → lt (at0 p i) (at0 p k) = true) → (∀ i, r ≤ i → i < k → lt (at0 p k) (at0 p i) = true) →
  KOk n lt (kas_place p k f l r) (fun l => l ≤ k ∧ (∀ i, i < l → lt (at0 p i) (at0 p k) = true) ∧ ∀ i, l ≤ i → i < k → lt (at0 p k) (at0 p i) = true)
 | 0, l, r, h1, h2, h3, h4, h5 => ⟨by lia, h4, fun i hi hik => h5 i (by lia) hik⟩
 | f + 1, l, r, h1, h2, h3, h4, h5 => by
  unfold kas_place
  by_cases e : l ≥ r
  ·rw [if_pos e]
   exact ⟨by lia, h4, fun i hi hik => h5 i (by lia) hik⟩
  ·rw [if_neg e]
   refine ⟨hp.bd (i := k) hk, hp.bd (i := (l + r) / 2) (by lia), ?_⟩
   have hmid : (l + r) / 2 < r ∧ l ≤ (l + r) / 2 := by lia
   cases c : lt (p.getD k 0) (p.getD ((l + r) / 2) 0) with
   | true =>
    dsimp only
    rw [if_pos rfl]
    refine Gz S hp hk hs f l ((l + r) / 2) (by lia) (by lia) (by lia) h4 fun i hi hik => ?_
    by_cases e2 : i = (l + r) / 2
    ·subst e2; exact c
    ·exact S.trans _ _ _ c (Srt.all S hs (by lia) hik)
   | false =>
    dsimp only
    rw [if_neg (by simp)]
    have d : lt (at0 p ((l + r) / 2)) (at0 p k) = true := by
     rcases S.tri (at0 p ((l + r) / 2)) (at0 p k) (hp.bd (by lia)) (hp.bd hk) (fun z => by have := hp.inj (by lia) hk z; lia) with z | z
     ·exact z
     ·have z' : lt (p.getD k 0) (p.getD ((l + r) / 2) 0) = true := z
      rw [c] at z'; cases z'
    refine Gz S hp hk hs f ((l + r) / 2 + 1) r (by lia) (by lia) h3 (fun i hi => ?_) h5
    by_cases e2 : i = (l + r) / 2
    ·subst e2; exact d
    ·exact S.trans _ _ _ (Srt.all S hs (i := i) (j := (l + r) / 2) (by lia) (by lia)) d
theorem IS (hp : PR n p) {k l j : Nat} (hk : k < n) (hl : l ≤ k) : at0 (bubble p k (k - l)) j = if j = l then at0 p k else if l < j ∧ j ≤ k then at0 p (j - 1) else at0 p j := by
 have hs := hp.size
 unfold at0
 rw [Array.getD_eq_getD_getElem?, getElem?_bubble (by lia) (k - l) (by lia) j, show k - (k - l) = l by lia]
 repeat' split
 all_goals rw [Array.getD_eq_getD_getElem?]
theorem Ny (S : STO n lt) : ∀ (f k : Nat) (p : Array Nat), PR n p → k + f = n → Srt lt p k → KOk n lt (kas_bin f p k) (fun q => PR n q ∧ Srt lt q n)
 | 0, k, p, hp, hk, hs => by
  have e : k = n := by lia
  subst e
  exact ⟨hp, hs⟩
 | f + 1, k, p, hp, hk, hs => by
  refine KOk.bind (KOk.mono (fun l hl => ?_) (Gz S hp (by lia) hs k 0 k (by lia) (by lia) (Nat.le_refl _) (fun i hi => by lia) (fun i h1 h2 => by lia)))
  obtain ⟨h1, h2, h3⟩ := hl
  refine Ny S f (k + 1) _ ⟨(bubble_perm ..).trans hp.pm⟩ (by lia) fun i hi => ?_
  rw [IS hp (by lia) h1, IS hp (by lia) h1]
  by_cases c1 : i + 1 < l
  ·rw [if_neg (by lia), if_neg (by lia), if_neg (by lia), if_neg (by lia)]
   exact hs i (by lia)
  ·by_cases c2 : i + 1 = l
   ·rw [if_neg (by lia), if_neg (by lia), if_pos c2]
    exact h2 i (by lia)
   ·by_cases c3 : i = l
    ·rw [if_pos c3, if_neg (by lia), if_pos (by lia), show i + 1 - 1 = i by lia]
     exact h3 i (by lia) (by lia)
    ·rw [if_neg c3, if_pos (by lia), if_neg (by lia), if_pos (by lia), show i + 1 - 1 = i by lia]
     have := hs (i - 1) (by lia)
     rw [show i - 1 + 1 = i by lia] at this
     exact this
theorem Ob (S : STO n lt) (h2 : 2 ≤ n) : KOk n lt (kas_sort n) (fun q => PR n q ∧ Srt lt q n) := by
 refine KOk.bind (KOk.mono (fun r hr => ?_) (Np S ⟨Array.Perm.refl _⟩ h2))
 obtain ⟨h1, h3, h4, h5⟩ := hr
 by_cases e : r.1 < n
 ·rw [if_pos e, show max r.1 1 = r.1 by lia]
  exact Ny S _ _ _ h1 (by lia) h5
 ·rw [if_neg e]
  exact ⟨h1, by have e2 : r.1 = n := by lia
                rw [← e2]; exact h5⟩
end
section
variable {prog : Program} {w : World} {A : Around} {E : Value → Shared → Prop} {s : Shared}
noncomputable def CZ (vs : List Value) (p : Array Nat) : List Value := p.toList.map fun i => vs.getD i Value.none
theorem MD {vs : List Value} {p : Array Nat} (hp : PR vs.length p) : (CZ vs p).length = vs.length := by
 unfold CZ; rw [List.length_map, Array.length_toList, hp.size]
theorem F2 {vs : List Value} (h : vs.length < 2) : CZ vs (List.range vs.length).toArray = vs := by
 cases vs with
 | nil => rfl
 | cons a r =>
  cases r with
  | nil => rfl
  | cons b q => simp only [List.length_cons] at h; lia
theorem OZ (vs : List Value) : (vs.toArray.zip vs.toArray).map (·.2) = vs.toArray := by
 apply Array.toList_inj.mp
 rw [Array.toList_map, Array.toList_zip]
 exact List.map_snd_zip (Nat.le_refl _)
theorem M6 {a : Addr} {vs : List Value} {n : Nat} {lt : Nat → Nat → Bool} {P : PySem.Fin → Shared → Prop} (ho : s.heap.get? a = some (seqObj "list" vs.toArray n)) (S : STO vs.length lt) (h64 : vs.length < 64)
  (hc : 2 ≤ vs.length → ∀ h' : Heap, (∀ b o, b ≠ a → s.heap.get? b = some o → h'.get? b = some o) → ∃ κ : SortKind,
   (∀ (R : SortKind → Shared → Prop), R κ { s with heap := h' } → wpAny (model prog w) A (keyKind' vs.toArray) R (fun _ _ => False) { s with heap := h' }) ∧
   ∀ i j (C : Bool → Shared → Prop), i < vs.length → j < vs.length → C (lt i j) { s with heap := h' } → wpAny (model prog w) A (keyLt' κ (vs.getD i Value.none) (vs.getD j Value.none)) C (fun _ _ => False) { s with heap := h' })
  (h : ∀ (h' : Heap) (p : Array Nat) (c : Nat), (∀ b o, b ≠ a → s.heap.get? b = some o → h'.get? b = some o) → h'.get? a = some (seqObj "list" (CZ vs p).toArray c) → PR vs.length p → Srt lt p vs.length → P (.done (.ret .none)) { s with heap := h' }) :
  wpAny (model prog w) A (Builtin.«list.sort» ⟨[.ref a], []⟩) P E s := by
 have ha : a < s.heap.objs.size := Heap.lt_size ho
 have s1 := Heap.SameBut.update s.heap a (Obj.mapSeq fun _ => (#[] : Array Value))
 obtain ⟨e1, ho1⟩ : ∃ e1, (s.heap.update a (Obj.mapSeq fun _ => (#[] : Array Value))).get? a = some (seqObj "list" #[] e1) := ⟨_, get?_update_seq ho fun _ => #[]⟩
 rw [list_sort_plain]
 refine wpAny_bind (listItems_at ho rfl ?_)
 refine wpAny_bind (listUpdate_at ho rfl ?_ (by rw [List.size_toArray, sizeLine_eq]; lia) (Nat.zero_le _))
 refine wpAny_bind (seqEpoch_at ho1 rfl ?_)
 refine wpAny_bind (wpAny_newTuple ?_ (by show vs.length ≤ _; rw [sizeLine_eq]; lia))
 refine wpAny_bind (wpAny_newList ?_ (Nat.zero_le _))
 refine wpAny_holding ?_
 generalize hH : ((s.heap.update a (Obj.mapSeq fun _ => (#[] : Array Value))).push (seqObj "tuple" vs.toArray 0)).push (seqObj "list" #[] 0) = H3
 show wpAny (model prog w) A _ P E { s with heap := H3 }
 dsimp only
 have keep3 : ∀ b o, b ≠ a → s.heap.get? b = some o → H3.get? b = some o := fun b o hb e => by
  rw [← hH]; exact Heap.get?_push_of_some _ (Heap.get?_push_of_some _ ((s1.2 b hb).trans e))
 have at3 : H3.get? a = some (seqObj "list" #[] e1) := by rw [← hH]; exact Heap.get?_push_of_some _ (Heap.get?_push_of_some _ ho1)
 have fin : ∀ (p : Array Nat), PR vs.length p → Srt lt p vs.length → P (.done (.ret .none)) { s with heap := H3.update a (Obj.mapSeq fun _ => (CZ vs p).toArray) } := fun p hp hs => by
  obtain ⟨c2, hc2⟩ : ∃ c2, (H3.update a (Obj.mapSeq fun _ => (CZ vs p).toArray)).get? a = some (seqObj "list" (CZ vs p).toArray c2) := ⟨_, get?_update_seq at3 fun _ => (CZ vs p).toArray⟩
  exact h _ p c2 (fun b o hb e => ((Heap.SameBut.update H3 a _).2 b hb).trans (keep3 b o hb e)) hc2 hp hs
 by_cases h2 : vs.toArray.size < 2
 ·rw [if_pos h2, if_pos h2]
  have hl2 : vs.length < 2 := by simpa using h2
  refine wpAny_bind (wpAny_pure ?_)
  rw [StateT.run_pure]
  refine wpAny_bind (wpAny_pure ?_)
  dsimp only
  refine wpAny_bind (seqEpoch_at at3 rfl ?_)
  have ez : ((vs.toArray.zip vs.toArray).map (·.2)) = (CZ vs (List.range vs.length).toArray).toArray := by
   rw [F2 hl2]
   exact OZ vs
  show wpAny _ _ (Builtin.List.listUpdate (.ref a) (fun _ => (vs.toArray.zip vs.toArray).map (·.2)) >>= _) _ _ _
  rw [ez]
  refine wpAny_bind (listUpdate_at at3 rfl ?_ (Nat.zero_le _) (by show (CZ vs (List.range vs.length).toArray).toArray.size ≤ _; rw [F2 hl2, List.size_toArray, sizeLine_eq]; lia))
  simp only [bne_self_eq_false, Bool.false_eq_true, if_false]
  exact wpAny_pure (fin _ ⟨Array.Perm.refl _⟩ fun i hi => by lia)
 ·rw [if_neg h2, if_neg h2]
  have hl2 : 2 ≤ vs.length := by simpa using h2
  obtain ⟨κ, k1, k2⟩ := hc hl2 H3 keep3
  refine wpAny_bind (wpAny_mono (k1 (fun κ' s' => κ' = κ ∧ s' = { s with heap := H3 }) ⟨rfl, rfl⟩) ?_ fun _ _ x => x.elim)
  rintro κ' s' ⟨rfl, rfl⟩
  refine wpAny_bind (wpAny_mono (kat_run (Q := fun st' s' => ∃ p : Array Nat, arrOf st' = p.map (kas_item (vs.toArray.zip vs.toArray)) ∧ failedOf st' = none ∧ PR vs.length p ∧ Srt lt p vs.length ∧ s' = { s with heap := H3 })
   (G := fun p s' => PR vs.length p ∧ Srt lt p vs.length ∧ s' = { s with heap := H3 }) rfl hl2 h64 (fun p' st' s' a1 a2 a3 a4 => ⟨p', a2, a3, a4⟩)
   (KOk.wp (fun i j C hi hj q => k2 i j C hi hj q) (KOk.mono (fun q hq => ⟨hq.1, hq.2, rfl⟩) (Ob S hl2)))) ?_ fun _ _ e => e)
  rintro ⟨⟨⟩, st'⟩ s' ⟨p, har, hf, hp, hs, rfl⟩
  dsimp only
  refine wpAny_bind (seqEpoch_at at3 rfl ?_)
  have hout : (arrOf st').map (·.2) = (CZ vs p).toArray := kat_snds rfl har
  rw [hout]
  refine wpAny_bind (listUpdate_at at3 rfl ?_ (Nat.zero_le _) (by show (CZ vs p).toArray.size ≤ _; rw [List.size_toArray, MD hp, sizeLine_eq]; lia))
  rw [hf]
  simp only [bne_self_eq_false, Bool.false_eq_true, if_false]
  exact wpAny_pure (fin p hp hs)
theorem Md {l : Addr} {vs : List Value} {lt : Nat → Nat → Bool} {Q : Value → Shared → Prop} (hl : s.heap.IsList l vs.toArray) (S : STO vs.length lt) (h64 : vs.length < 64)
  (hc : 2 ≤ vs.length → ∀ h' : Heap, (∀ b o, s.heap.get? b = some o → h'.get? b = some o) → ∃ κ : SortKind,
   (∀ (R : SortKind → Shared → Prop), R κ { s with heap := h' } → wpAny (model prog w) A.in1.in1 (keyKind' vs.toArray) R (fun _ _ => False) { s with heap := h' }) ∧
   ∀ i j (C : Bool → Shared → Prop), i < vs.length → j < vs.length → C (lt i j) { s with heap := h' } → wpAny (model prog w) A.in1.in1 (keyLt' κ (vs.getD i Value.none) (vs.getD j Value.none)) C (fun _ _ => False) { s with heap := h' })
  (h : ∀ (D : Addr) (h' : Heap) (p : Array Nat) (c : Nat), s.heap.objs.size ≤ D → (∀ b o, s.heap.get? b = some o → h'.get? b = some o) → h'.get? D = some (seqObj "list" (CZ vs p).toArray c) → PR vs.length p → Srt lt p vs.length → Q (.ref D) { s with heap := h' }) :
  wpAny (model prog w) A (call (.builtin "sorted") [.ref l]) Q E s := by
 refine Calls.call_function_entry kind_sorted plain_sorted entry_sorted (args_sorted1 _) ?_
 unfold Builtin.«sorted»
 refine wpAny_bind (m := checkCount "sorted" 1 1 _) (wpAny_pure ?_)
 refine wpAny_bind (collect_list hl ?_ (by rw [sizeLine_eq]; lia))
 refine wpAny_bind (wpAny_newList ?_ (by rw [sizeLine_eq]; lia))
 have hsz : ((s.heap.push (seqObj "list" #[] 0)).update s.heap.objs.size (Obj.mapSeq (· ++ vs.toArray))).objs.size = s.heap.objs.size + 1 := by
  rw [Heap.size_update, size_push']
 have hoL : (((s.heap.push (seqObj "list" #[] 0)).update s.heap.objs.size (Obj.mapSeq (· ++ vs.toArray))).push (seqObj "list" vs.toArray 0)).get? (s.heap.objs.size + 1) = some (seqObj "list" vs.toArray 0) := by
  rw [← hsz]; exact Heap.get?_push_size _ rfl
 have keep : ∀ b o, s.heap.get? b = some o → (((s.heap.push (seqObj "list" #[] 0)).update s.heap.objs.size (Obj.mapSeq (· ++ vs.toArray))).push (seqObj "list" vs.toArray 0)).get? b = some o := fun b o q => by
  have hlt : b < s.heap.objs.size := Heap.lt_size q
  rw [Heap.get?_push_ne _ _ _ (by rw [hsz]; exact Nat.ne_of_lt (Nat.lt_succ_of_lt hlt)), Heap.get?_update_ne _ _ _ _ (Nat.ne_of_lt hlt), Heap.get?_push_ne _ _ _ (Nat.ne_of_lt hlt)]
  exact q
 show wpAny _ _ _ _ _ { s with heap := ((s.heap.push (seqObj "list" #[] 0)).update s.heap.objs.size (Obj.mapSeq (· ++ vs.toArray))).push (seqObj "list" vs.toArray 0) }
 rw [hsz]
 have ne : ∀ b o, s.heap.get? b = some o → b ≠ s.heap.objs.size + 1 := fun b o q => Nat.ne_of_lt (Nat.lt_succ_of_lt (Heap.lt_size q))
 refine wpAny_bind (wpAny_holding (wpAny_call_entry slot_list_sort ⟨_, hoL, rfl⟩ entry_list_sort ?body (args_list_sort _)))
 case body =>
  refine M6 (s := { s with heap := ((s.heap.push (seqObj "list" #[] 0)).update s.heap.objs.size (Obj.mapSeq (· ++ vs.toArray))).push (seqObj "list" vs.toArray 0) }) hoL S h64
   (fun h2 h' k => hc h2 h' fun b o q => k b o (ne b o q) (keep b o q)) fun h' p c k hat hp hs => ?_
  exact ⟨_, rfl, wpAny_pure ⟨_, rfl, h _ h' p c (Nat.le_succ _) (fun b o q => k b o (ne b o q) (keep b o q)) hat hp hs⟩⟩
end
theorem KC : ∀ {a b : List Int}, HT.lexLt a b = true → HT.lexLt b a = false
 | [], [], h => by cases h
 | [], _ :: _, _ => rfl
 | _ :: _, [], h => by cases h
 | x :: r, y :: t, h => by
  rw [HT.lexLt_cons] at h ⊢
  by_cases e : x = y
  ·rw [if_pos e] at h; rw [if_pos e.symm]; exact KC h
  ·rw [if_neg e] at h; rw [if_neg (Ne.symm e)]
   have := of_decide_eq_true h
   exact decide_eq_false (by lia)
theorem Ig : ∀ {a b c : List Int}, HT.lexLt a b = true → HT.lexLt b c = true → HT.lexLt a c = true
 | [], _, [], _, h => by rename_i b _; cases b <;> cases h
 | [], _, _ :: _, _, _ => rfl
 | _ :: _, [], _, h, _ => by cases h
 | _ :: _, _ :: _, [], _, h => by cases h
 | x :: r, y :: t, z :: u, h1, h2 => by
  rw [HT.lexLt_cons] at h1 h2 ⊢
  by_cases e1 : x = y
  ·rw [if_pos e1] at h1
   by_cases e2 : y = z
   ·rw [if_pos e2] at h2; rw [if_pos (e1.trans e2)]; exact Ig h1 h2
   ·rw [if_neg e2] at h2; rw [if_neg (by lia), e1]; exact h2
  ·rw [if_neg e1] at h1
   by_cases e2 : y = z
   ·rw [if_neg (by lia), ← e2]; exact h1
   ·rw [if_neg e2] at h2
    have d1 := of_decide_eq_true h1
    have d2 := of_decide_eq_true h2
    rw [if_neg (by lia)]
    exact decide_eq_true (by lia)
theorem Ln : ∀ {a b : List Int}, a ≠ b → HT.lexLt a b = true ∨ HT.lexLt b a = true
 | [], [], h => absurd rfl h
 | [], _ :: _, _ => .inl rfl
 | _ :: _, [], _ => .inr rfl
 | x :: r, y :: t, h => by
  rw [HT.lexLt_cons, HT.lexLt_cons]
  by_cases e : x = y
  ·rw [if_pos e, if_pos e.symm]
   exact Ln fun z => h (by rw [e, z])
  ·rw [if_neg e, if_neg (Ne.symm e)]
   rcases (by lia : x < y ∨ y < x) with z | z
   ·exact .inl (decide_eq_true z)
   ·exact .inr (decide_eq_true z)
theorem Ov {ts : List (List Int)} (h : ts.Nodup) : STO ts.length (fun i j => HT.lexLt (ts.getD i []) (ts.getD j [])) where
 tri := fun i j hi hj hij => Ln fun z => hij ((List.getElem_inj h).mp (by simpa [List.getD_eq_getElem?_getD, hi, hj] using z))
 asym := fun _ _ => KC
 trans := fun _ _ _ => Ig
section
variable {prog : Program} {w : World} {A : Around} {s : Shared}
theorem F7 {Q : Bool → Shared → Prop} : ∀ {t1 t2 : List Int} {us ws : List Value} (i : Nat) (fin : Bool), AX (t1.map V.int) us → AX (t2.map V.int) ws → fin = decide (t1.length < t2.length) → Q (HT.lexLt t1 t2) s →
  KatLex prog w A true fin Q (us.zip ws) i s
 | [], [], us, ws, i, fin, r1, r2, hf, q => by
  cases r1; cases r2
  rw [hf]; exact q
 | [], _ :: _, us, ws, i, fin, r1, r2, hf, q => by
  cases r1
  rw [hf]; exact q
 | x :: t1, [], us, ws, i, fin, r1, r2, hf, q => by
  cases r2
  have e : us.zip ([] : List Value) = [] := by cases us <;> rfl
  rw [e, hf]; exact q
 | x :: t1, y :: t2, us, ws, i, fin, r1, r2, hf, q => by
  cases r1 with
  | cons ra rb =>
   cases r2 with
   | cons rc rd =>
    obtain ⟨k1, rfl⟩ := ra
    obtain ⟨k2, rfl⟩ := rc
    refine kat_cons (wpAny_eqBool_int ?_)
    rw [HT.lexLt_cons] at q
    by_cases e : x = y
    ·rw [if_pos e] at q
     have e2 : (x == y) = true := by simpa using e
     rw [e2]
     refine kat_yes (F7 (i + 1) fin rb rd ?_ q)
     rw [hf]; simp
    ·rw [if_neg e] at q
     have e2 : (x == y) = false := by simpa using e
     rw [e2]
     refine kat_no ?_
     cases i with
     | zero => exact oneLt_int q
     | succ i => exact kat_one _ _ (lt_int (show W.BoolBack Q (.bool (decide (x < y))) s from q))
end
section
variable {X : Cx}
theorem IP : ∀ {zs : List (Addr × List Int)} {us : List Value}, AX (zs.map fun z => V.ref z.1) us → us = zs.map fun z => Value.ref z.1
 | [], _, r => by cases r; rfl
 | z :: zs, _, r => by
  cases r with
  | cons ra rb =>
   cases ra
   rw [IP rb]; rfl
theorem Jw {h : Heap} {K : PySem.W.Frag} {M : Model} : ∀ {zs : List (Addr × List Int)}, (∀ z ∈ zs, z.2 ≠ [] ∧ ∃ its : List Value, AX (z.2.map V.int) its ∧ IsTup h z.1 its.toArray) →
  ∃ fs : List Value, KatTups h (zs.map fun z => Value.ref z.1) fs ∧ fs.length = zs.length ∧ ∀ v ∈ fs, ∃ i t, v = Value.int i t
 | [], _ => ⟨[], .nil, rfl, fun _ hv => absurd hv (by simp)⟩
 | z :: zs, hz => by
  obtain ⟨fs, h1, h2, h3⟩ := Jw (h := h) (K := K) (M := M) (zs := zs) fun y hy => hz y (List.mem_cons_of_mem _ hy)
  obtain ⟨hne, its, rv, o, ho, hc, n, hd⟩ := hz z List.mem_cons_self
  obtain ⟨a, t⟩ := z
  cases t with
  | nil => exact absurd rfl hne
  | cons x t =>
   cases rv with
   | cons ra rb =>
    obtain ⟨tk, rfl⟩ := ra
    refine ⟨.int x tk :: fs, KatTups.cons ho hc hd (by simp) h1, by rw [List.length_cons, List.length_cons, h2], fun v hv => ?_⟩
    rcases List.mem_cons.mp hv with rfl | hv
    ·exact ⟨x, tk, rfl⟩
    ·exact h3 v hv
noncomputable def Cj (K : PySem.W.Frag) : List V → Hp → VK → Prop := fun xs H Q => ∃ l, xs = [.ref l] ∧ ∃ zs : List (Addr × List Int), SqL K H l (zs.map fun z => V.ref z.1) ∧ (∀ z ∈ zs, z.2 ≠ [] ∧ SqT K H z.1 (z.2.map V.int)) ∧ (zs.map (·.2)).Nodup ∧ zs.length < 64 ∧
 ∀ (D : Addr) (H' : Hp) (zs' : List (Addr × List Int)), H D = none → AH H H' → H' D = some (.lst (zs'.map fun z => V.ref z.1)) → zs'.Perm zs → zs'.Pairwise (fun a b => HT.lexLt a.2 b.2 = true) → Q (.ref D) H'
theorem KJ {zs : List (Addr × List Int)} {i : Nat} (hi : i < zs.length) : (zs.map fun z => Value.ref z.1).getD i Value.none = Value.ref (zs[i]).1 := by
 rw [List.getD_eq_getElem?_getD, List.getElem?_map, List.getElem?_eq_getElem hi]; rfl
noncomputable def GL {α : Type} (d : α) (xs : List α) (p : Array Nat) : List α := p.toList.map fun i => xs.getD i d
theorem MM {α : Type} (d : α) (xs : List α) {p : Array Nat} (hp : PR xs.length p) : (GL d xs p).Perm xs := by
 have h1 : p.toList.Perm (List.range xs.length) := by simpa using Array.perm_iff_toList_perm.mp hp.pm
 have h2 := h1.map fun i => xs.getD i d
 have h3 : ((List.range xs.length).map fun i => xs.getD i d) = xs := by
  refine List.ext_getElem (by simp) fun i h1 h2 => ?_
  simp [List.getD_eq_getElem?_getD]
  rw [List.getElem?_eq_getElem h2]; rfl
 rw [h3] at h2
 exact h2
theorem NE {α β : Type} (d : α) (e : β) (f : α → β) (xs : List α) {p : Array Nat} (hp : PR xs.length p) : GL e (xs.map f) p = (GL d xs p).map f := by
 unfold GL
 rw [List.map_map]
 refine List.map_congr_left fun i hi => ?_
 have hi' : i < xs.length := by
  have := (hp.pm.mem_iff).mp (Array.mem_toList_iff.mp hi)
  simpa using this
 show (xs.map f).getD i e = f (xs.getD i d)
 rw [List.getD_eq_getElem?_getD, List.getD_eq_getElem?_getD, List.getElem?_map, List.getElem?_eq_getElem hi']; rfl
theorem Lm {α : Type} (d : α) (xs : List α) {p : Array Nat} {k : Nat} (hk : k < (GL d xs p).length) : (GL d xs p)[k] = xs.getD (at0 p k) d := by
 have hk' : k < p.size := by simpa [GL] using hk
 have e : (GL d xs p)[k]? = some (xs.getD (at0 p k) d) := by
  unfold GL at0
  rw [List.getElem?_map, Array.getElem?_toList, Array.getD_eq_getD_getElem?, Array.getElem?_eq_getElem hk']; rfl
 rw [List.getElem?_eq_getElem hk] at e
 exact Option.some.inj e
theorem JB : BJ X (.builtin "sorted") (Cj X.K) := by
 intro pins s σ H xs us Q I r h
 obtain ⟨l, rfl, zs, hl, ht, nd, h64, q⟩ := h
 obtain ⟨u, rfl, ru⟩ := vals1 r
 cases ru
 obtain ⟨its, rv, pl, hz⟩ := I.list hl
 have ei := IP rv
 subst ei
 have hlen : (zs.map fun z => Value.ref z.1).length = zs.length := List.length_map _
 have S : STO (zs.map fun z => Value.ref z.1).length (fun i j => HT.lexLt ((zs.map (·.2)).getD i []) ((zs.map (·.2)).getD j [])) := by
  rw [hlen]
  have := Ov nd
  rw [List.length_map] at this
  exact this
 refine Md pl.isList S (by rw [hlen]; exact h64) (fun h2 h' kp => ?_) fun D h' p c hD kp hat hp hs => ?_
 ·have tups : ∀ z ∈ zs, z.2 ≠ [] ∧ ∃ its : List Value, AX (z.2.map V.int) its ∧ IsTup h' z.1 its.toArray := fun z hz => by
   obtain ⟨n1, n2⟩ := ht z hz
   obtain ⟨its, r1, ⟨o, ho, hc⟩, _⟩ := I.tuple n2
   exact ⟨n1, its, r1, o, kp _ _ ho, hc⟩
  obtain ⟨fs, t1, t2, t3⟩ := Jw (K := X.K) (M := model X.prog X.w) tups
  refine ⟨tuples' (Value.type "int" != Value.type "tuple"), fun R hR => ?_, fun i j C hi hj hC => ?_⟩
  ·refine kat_kind t1 (by rw [t2]; rw [hlen] at h2; lia) (fun v hv => ?_) (by decide) hR
   obtain ⟨i, t, rfl⟩ := t3 v hv
   exact .of_pure rfl
  ·rw [hlen] at hi hj
   rw [KJ hi, KJ hj]
   obtain ⟨_, i1, r1, o1, ho1, _, n1, hd1⟩ := tups zs[i] (List.getElem_mem hi)
   obtain ⟨_, i2, r2, o2, ho2, _, n2, hd2⟩ := tups zs[j] (List.getElem_mem hj)
   have eb : (Value.type "int" != Value.type "tuple") = true := by decide
   rw [eb]
   have l1 := r1.length
   have l2 := r2.length
   rw [List.length_map] at l1 l2
   refine kat_lt ho1 hd1 ho2 hd2 ?_
   refine F7 0 _ r1 r2 ?_ ?_
   ·simp [l1, l2]
   ·have g1 : (zs.map (·.2)).getD i [] = zs[i].2 := by rw [List.getD_eq_getElem?_getD, List.getElem?_map, List.getElem?_eq_getElem hi]; rfl
    have g2 : (zs.map (·.2)).getD j [] = zs[j].2 := by rw [List.getD_eq_getElem?_getD, List.getElem?_map, List.getElem?_eq_getElem hj]; rfl
    rw [g1, g2] at hC
    exact hC
 ·rw [hlen] at hp hs
  have hfr : H D = none := I.hok.fresh hD
  have eo : CZ (zs.map fun z => Value.ref z.1) p = (GL ((0 : Addr), ([] : List Int)) zs p).map fun z => Value.ref z.1 := NE (0, []) Value.none (fun z : Addr × List Int => Value.ref z.1) zs hp
  have ep := MM ((0 : Addr), ([] : List Int)) zs hp
  have rel : ∀ ys : List (Addr × List Int), AX (ys.map fun z => V.ref z.1) (ys.map fun z => Value.ref z.1) := fun ys => by
   induction ys with
   | nil => exact .nil
   | cons y ys ih => exact .cons rfl ih
  have I2 : Inv X pins σ (upd H D (.lst ((GL ((0 : Addr), ([] : List Int)) zs p).map fun z => V.ref z.1))) { s with heap := h' } := by
   refine I.laid (t' := s.toks) kp hD ⟨by rw [List.length_map, ep.length_eq, PySem.sizeLine_eq]; lia, _, c, rel _, ?_⟩
   rw [hat, eo]
  refine ⟨.ref D, _, I2, rfl, q D _ _ hfr (Ac hfr) AG ep ?_⟩
  refine List.pairwise_iff_getElem.mpr fun i j hi hj hij => ?_
  have hpl : (GL ((0 : Addr), ([] : List Int)) zs p).length = zs.length := ep.length_eq
  rw [Lm, Lm]
  have := Srt.all (n := zs.length) (by rw [hlen] at S; exact S) hs hij (by lia)
  have g : ∀ k, k < zs.length → (zs.map (·.2)).getD (at0 p k) [] = (zs.getD (at0 p k) (0, [])).2 := fun k hk => by
   have := hp.bd hk
   rw [List.getD_eq_getElem?_getD, List.getD_eq_getElem?_getD, List.getElem?_map, List.getElem?_eq_getElem this]; rfl
  rw [g i (by lia), g j (by lia)] at this
  exact this
end
theorem Fk : bootBuiltins "sorted" = some (.builtin "sorted") := by decide +kernel
section
variable {X : Cx} {pos : Pos}
noncomputable def Cu : TE := fun _ H Q => ∀ p H', H p = none → AH H H' → H' p = some (.dK []) → Q (.ref p) H'
theorem Nv : PE X (.Dict [] [] pos) Cu := fun pins s σ H Q I h => NZ pins s σ H Q I fun p hp => h p _ hp (Ac hp) AG
end
section
variable {X : Cx} {o e : Expr} {to te : TE} {pos : Pos}
theorem PE.weak {e : Expr} {t t' : TE} (h : PE X e t) (m : ∀ σ H Q, t' σ H Q → t σ H Q) : PE X e t' := fun pins s σ H Q I q => h pins s σ H Q I (m σ H Q q)
noncomputable def Bm (to te : TE) : TE := fun σ H Q => to σ H fun x H1 => ∃ l, x = .ref l ∧ ∃ xs, H1 l = some (.lst xs) ∧ te σ H1 fun y H2 => ∃ ys, H2 l = some (.lst ys) ∧ ys.length < sizeLine ∧ Q .non (upd H2 l (.lst (ys ++ [y])))
end
section
variable {X : Cx} {o e : Expr} {to te : TE} {pos apos cpos : Pos}
noncomputable def tMono (t : TE) : TE := fun σ H Q => ∃ P : VK, t σ H P ∧ ∀ v H', P v H' → Q v H'
theorem PE.mono {t : TE} (h : PE X e t) : PE X e (tMono t) := fun pins s σ H Q I ⟨P, h1, h2⟩ =>
 thn (h pins s σ H P I h1) fun u s1 ⟨v, H1, I1, r1, q1⟩ => ⟨v, H1, I1, r1, h2 v H1 q1⟩
theorem BD (ho : PE X o to) (he : PE X e te)
  (hbase : attributeBase o "append" X.env (eval o X.env) = eval o X.env := by rfl)
  (hfew : ((backTo cpos (starEach [e] X.env)).all (fun x => !x.1) && (backToKw cpos (keywordEach [] X.env)).all (fun x => x.1.isSome)
   && decide ([e].length + ([] : List Keyword).length + (if ([] : List Keyword).isEmpty then 0 else 1) < 30)) = true := by rfl)
  (hline : (apos.endLine == cpos.line) = true := by rfl) (hs : starEach [e] X.env = (false, eval e X.env) :: starEach [] X.env := by rfl) (hplain : (backTo cpos (starEach [] X.env)).any (·.1) = false := by rfl) :
  PE X (.Call (.Attribute o "append" apos) [e] [] cpos) (Bm to te) :=
 PE.weak (FB PySem.F.plainAttrs_list PySem.F.slot_list_append PySem.F.type_list_append Fs ho.mono (AA he.mono AC hs) hbase hfew hline hs hplain) fun σ H Q h => by
  refine ⟨_, h, fun x H1 h1 => ?_⟩
  obtain ⟨l, rfl, xs, e1, h1⟩ := h1
  refine ⟨.inl ⟨rfl, xs, SqL.of e1⟩, _, h1, fun y H2 h2 => ?_⟩
  obtain ⟨ys, e2, hz, q⟩ := h2
  exact ⟨l, ys, y, rfl, rfl, e2, hz, q⟩
end
section
variable {X : Cx} {pos : Pos}
noncomputable def Io (i j k : Nat) (ta : TA) : TS := fun D σ H => ta σ H fun vs H1 => ∃ v w u, vs = [v, w, u] ∧ D.nx (((σ.set i (some v)).set j (some w)).set k (some u)) H1
end
section
variable {X : Cx}
noncomputable def JV (K : PySem.W.Frag) : R2 := fun x y H Q => ∃ a b, x = .ref a ∧ y = .ref b ∧ ∃ ns : List Int, SqT K H a (ns.map V.int) ∧ ∃ ms : List Int, SqT K H b (ms.map V.int) ∧ Q (.bl (decide (ns = ms))) H
noncomputable def Ja (K : PySem.W.Frag) : R2 := fun x y H Q => ∃ a b, x = .ref a ∧ y = .ref b ∧ ∃ ns : List Int, SqT K H a (ns.map V.int) ∧ ∃ ms : List Int, SqT K H b (ms.map V.int) ∧ Q (.bl (!decide (ns = ms))) H
noncomputable def FE (K : PySem.W.Frag) : R2 := fun x y H Q => ∃ a b, x = .ref a ∧ y = .ref b ∧ ∃ xs, SqL K H a xs ∧ SqL K H b [] ∧ Q (.bl (decide (xs = []))) H
theorem DI {K : PySem.W.Frag} (h : X.K = K) : IxR X (HY K) := h ▸ BA
noncomputable def IA (K : PySem.W.Frag) : V → Option Int → Option Int → Hp → VK → Prop := fun x lo hi H Q => ∃ a, x = .ref a ∧ ∃ xs, SqL K H a xs ∧ ∀ p H', H p = none → AH H H' → H' p = some (.lst (GO xs lo hi)) → Q (.ref p) H'
theorem KP : SlR X (IA X.K) := fun pins s σ H x v vl vu lo hi sl Q I rx hs pl pu ⟨a, e, xs, h, q⟩ => ON pins s σ H x v vl vu lo hi sl Q I rx hs pl pu ⟨a, xs, e, h, fun p hp => q p _ hp (Ac hp) AG⟩
theorem MB {xs : List V} {i : Nat} : GO xs (some (i : Int)) none = xs.drop i := by
 unfold GO
 rw [HT.sIx_nat, HT.sIx_none]
 by_cases h : i ≤ xs.length
 ·rw [Nat.min_eq_left h, List.take_of_length_le (by rw [List.length_drop]; lia)]
 ·rw [Nat.min_eq_right (by lia), Nat.sub_self, List.take_zero, List.drop_eq_nil_of_le (by lia)]
end
section
variable {X : Cx} {pins : List (Addr × Obj)} {σ : St} {H : Hp} {s : Shared} {h' : Heap}
end
noncomputable def Ite (K : PySem.W.Frag) (a : Addr) : It :=
 ⟨fun i H => ∃ xs x, SqL K H a xs ∧ xs[i]? = some x, fun i H x H' => ∃ p y, x = .ref p ∧ H p = none ∧ H' = upd H p (.tup [.int (i : Int), y]) ∧ ∀ xs, SqL K H a xs → xs[i]? = some y, fun i H => ∃ xs, SqL K H a xs ∧ xs.length ≤ i⟩
section
variable {X : Cx}
noncomputable def FI (K : PySem.W.Frag) (ta : TA) : TI := fun σ H R => ta σ H fun vs H1 => ∃ a, vs = [.ref a] ∧ (∃ xs, SqL K H1 a xs) ∧ R (Ite K a) H1
theorem T9 : bootBuiltins "all" = some (.builtin "all") := by decide +kernel
noncomputable def Hg (K : PySem.W.Frag) : List V → Hp → VK → Prop := fun xs H Q => ∃ a, xs = [.ref a] ∧ ∃ ys : List Bool, SqL K H a (ys.map V.bl) ∧ Q (.bl (ys.all id)) H
theorem ND (hc : X.calm = true) : BJ X (.builtin "all") (Hg X.K) := by
 intro pins s σ H xs us Q I r h
 obtain ⟨a, rfl, ys, hq, q⟩ := h
 obtain ⟨u, rfl, rx⟩ := vals1 r
 cases rx
 obtain ⟨its, r', pl, hz⟩ := I.list hq
 have hlen := r'.length
 rw [List.length_map] at hlen
 have hlt : a < s.heap.objs.size := by obtain ⟨o, n, e, _⟩ := id pl; exact Heap.lt_size e
 refine call_all_walk (wpAny_pyIter_list pl.isList ?_)
 refine ⟨s.heap.objs.size, _, _, _, _, _, fun i => ys.getD i true, rfl, Walks.list (A := X.A.in1) (I.ok.hd hc) _ a (Nat.ne_of_lt hlt) its.toArray, ⟨⟨_, Heap.get?_push_size _ rfl, rfl, rfl⟩, pl.isList.at fun o e => Heap.get?_push_of_some _ e⟩, ?_, fun h' tk hk => ?_⟩
 ·intro i v s Q E hP hQ
  have hv : its[i]? = some v := by simpa using hP
  obtain ⟨hi, _⟩ := List.getElem?_eq_some_iff.mp hv
  obtain ⟨u, e1, e2⟩ := r'.get (i := i) (x := V.bl (ys.getD i true)) (by rw [List.getElem?_map, List.getElem?_eq_getElem (by lia), List.getD_eq_getElem?_getD, List.getElem?_eq_getElem (by lia)]; rfl)
  have e3 : v = u := Option.some.inj (hv.symm.trans e1)
  have e2 : u = Value.bool (ys.getD i true) := e2
  rw [e3, e2]
  exact wpAny_truthy_bool hQ
 ·have I2 : Inv X pins σ H { s with heap := h', toks := tk } := I.kept fun b o e => hk b o (fun z => by
   rw [List.mem_singleton.mp z] at e
   exact absurd (Heap.lt_size e) (Nat.lt_irrefl _)) (Heap.get?_push_of_some _ e)
  refine ⟨.bl (ys.all id), H, I2, ?_, q⟩
  show Value.bool _ = Value.bool _
  congr 1
  rw [show its.toArray.size = ys.length by simp [hlen], Bool.eq_iff_iff]
  simp only [List.all_eq_true, List.mem_range, id]
  constructor
  ·intro hh b hb
   obtain ⟨i, hi, rfl⟩ := List.getElem_of_mem hb
   have := hh i hi
   rwa [List.getD_eq_getElem?_getD, List.getElem?_eq_getElem hi] at this
  ·intro hh i hi
   rw [List.getD_eq_getElem?_getD, List.getElem?_eq_getElem hi]
   exact hh _ (List.getElem_mem hi)
end
end L2
namespace TG
open PySem L2
structure G where
 p : Int
 f : Int
 h : Int
noncomputable abbrev G.vs (g : G) : List V := [.int g.p, .int g.f, .int g.h]
structure OkG (g : G) : Prop where
 p0 : -1000 ≤ g.p
 p1 : g.p ≤ 1000
 f0 : -1000 ≤ g.f
 fh : g.f ≤ g.h
 h1 : g.h ≤ 1000
noncomputable def Ax (H : Hp) (as : List Addr) (gs : List G) : Prop := Paired (fun a g => H a = some (.tup (G.vs g))) as gs
theorem Ax.same {H H' : Hp} {as : List Addr} {gs : List G} (h : Ax H as gs) (s : AH H H') : Ax H' as gs := by
 unfold Ax at *
 induction h with
 | nil => exact .nil
 | cons e _ ih => exact .cons (s _ _ e) ih
theorem Ax.snoc {H : Hp} {as : List Addr} {gs : List G} {a : Addr} {g : G} (h : Ax H as gs) (e : H a = some (.tup (G.vs g))) : Ax H (as ++ [a]) (gs ++ [g]) := Paired.snoc h e
theorem Ax.len {H : Hp} {as : List Addr} {gs : List G} (h : Ax H as gs) : as.length = gs.length := Paired.length h
theorem As {xs : List Int} {i : Int} (h0 : 0 ≤ i) (h1 : i < xs.length) : atI (xs.map V.int) i = some (V.int (xs.getD i.toNat 0)) := by
 obtain ⟨n, rfl⟩ := Int.eq_ofNat_of_zero_le h0
 have hn : n < xs.length := by lia
 refine Cb ?_
 rw [List.getElem?_map, List.getElem?_eq_getElem hn, Int.toNat_natCast, List.getD_eq_getElem?_getD, List.getElem?_eq_getElem hn]; rfl
noncomputable def Jf (a b c : G) : Prop := a.h * (c.p - b.p) + c.h * (b.p - a.p) < b.f * (c.p - a.p)
noncomputable def JI (a b c : G) : Prop := b.h * (c.p - a.p) < a.f * (c.p - b.p) + c.f * (b.p - a.p)
instance (a b c : G) : Decidable (Jf a b c) := by unfold Jf; exact inferInstance
instance (a b c : G) : Decidable (JI a b c) := by unfold JI; exact inferInstance
noncomputable def Bars (a b c : G) : Prop := Jf a b c ∨ JI a b c
instance (a b c : G) : Decidable (Bars a b c) := by unfold Bars; exact inferInstance
theorem Ax.zip {H : Hp} {as : List Addr} {gs : List G} (h : Ax H as gs) : ∃ zs : List (Addr × List Int), as = zs.map (·.1) ∧ zs.map (·.2) = gs.map (fun g => [g.p, g.f, g.h]) ∧ ∀ z ∈ zs, z.2 ≠ [] ∧ H z.1 = some (.tup (z.2.map V.int)) := by
 unfold Ax at h
 induction h with
 | nil => exact ⟨[], rfl, rfl, fun _ h => absurd h (by simp)⟩
 | @cons a g as gs e _ ih =>
  obtain ⟨zs, h1, h2, h3⟩ := ih
  refine ⟨(a, [g.p, g.f, g.h]) :: zs, by rw [h1]; rfl, by rw [List.map_cons, h2]; rfl, fun z hz => ?_⟩
  rcases List.mem_cons.mp hz with rfl | hz
  ·exact ⟨by simp, e⟩
  ·exact h3 z hz
theorem Ax.of_zip {H : Hp} : ∀ {zs : List (Addr × List Int)} {gs : List G}, zs.map (·.2) = gs.map (fun g => [g.p, g.f, g.h]) → (∀ z ∈ zs, H z.1 = some (.tup (z.2.map V.int))) → Ax H (zs.map (·.1)) gs
 | [], [], _, _ => .nil
 | [], _ :: _, e, _ => by cases e
 | _ :: _, [], e, _ => by cases e
 | z :: zs, g :: gs, e, h => by
  rw [List.map_cons, List.map_cons, List.cons.injEq] at e
  refine .cons ?_ (Ax.of_zip e.2 fun y hy => h y (List.mem_cons_of_mem _ hy))
  have := h z List.mem_cons_self
  rw [e.1] at this
  exact this
noncomputable def toG (t : List Int) : G := ⟨t.getD 0 0, t.getD 1 0, t.getD 2 0⟩
theorem OM (gs : List G) : (gs.map fun g => [g.p, g.f, g.h]).map toG = gs := by
 rw [List.map_map]
 have : (toG ∘ fun g : G => [g.p, g.f, g.h]) = id := by funext g; rfl
 rw [this, List.map_id]
theorem lex_p {g g' : G} (hne : g.p ≠ g'.p) (h : HT.lexLt [g.p, g.f, g.h] [g'.p, g'.f, g'.h] = true) : g.p < g'.p := by
 rw [HT.lexLt_cons, if_neg hne] at h
 exact of_decide_eq_true h
noncomputable def Asc (gs : List G) : Prop := gs.Pairwise fun a b => a.p < b.p
section
variable {X : Cx}
noncomputable def Cz (K : PySem.W.Frag) : List V → Hp → VK → Prop := fun xs H Q => ∃ l, xs = [.ref l] ∧ ∃ (as : List Addr) (gs : List G), SqL K H l (as.map V.ref) ∧ Ax H as gs ∧ (gs.map G.p).Nodup ∧ gs.length < 64 ∧
 ∀ (D : Addr) (H' : Hp) (as' : List Addr) (gs' : List G), H D = none → AH H H' → H' D = some (.lst (as'.map V.ref)) → Ax H' as' gs' → gs'.Perm gs → Asc gs' → Q (.ref D) H'
theorem Jc : BJ X (.builtin "sorted") (Cz X.K) := JB.weak fun xs H Q ⟨l, e, as, gs, hl, ga, nd, h64, q⟩ => by
 obtain ⟨zs, h1, h2, h3⟩ := ga.zip
 have hlen : zs.length = gs.length := by
  have := congrArg List.length h2
  simpa using this
 refine ⟨l, e, zs, ?_, fun z hz => ⟨(h3 z hz).1, SqT.of (h3 z hz).2⟩, ?_, by lia, fun D H' zs' hD hs hat hp hsrt => ?_⟩
 ·rw [h1, List.map_map] at hl
  exact hl
 ·rw [h2]
  refine List.pairwise_map.mpr ((List.pairwise_map.mp nd).imp fun {a b} h z => h ?_)
  simp at z
  exact z.1
 ·have hm : (zs'.map (·.2)).Perm (gs.map fun g => [g.p, g.f, g.h]) := by rw [← h2]; exact hp.map _
  have hg : ((zs'.map (·.2)).map toG).Perm gs := by
   have := hm.map toG
   rw [OM] at this
   exact this
  have hback : zs'.map (·.2) = ((zs'.map (·.2)).map toG).map fun g => [g.p, g.f, g.h] := by
   rw [List.map_map]
   conv => lhs; rw [← List.map_id (zs'.map (·.2))]
   refine List.map_congr_left fun t ht => ?_
   obtain ⟨g, _, rfl⟩ := List.mem_map.mp (hm.mem_iff.mp ht)
   rfl
  refine q D H' (zs'.map (·.1)) ((zs'.map (·.2)).map toG) hD hs ?_ ?_ hg ?_
  ·rw [hat, List.map_map]; rfl
  ·exact Ax.of_zip hback fun z hz => hs.get (h3 z (hp.mem_iff.mp hz)).2
  ·have ndp : ((((zs'.map (·.2)).map toG)).map G.p).Nodup := ((hg.map G.p).nodup_iff).mpr nd
   have hsr : (((zs'.map (·.2)).map toG)).Pairwise fun a b => HT.lexLt [a.p, a.f, a.h] [b.p, b.f, b.h] = true := by
    have : ((((zs'.map (·.2)).map toG)).map fun g : G => [g.p, g.f, g.h]).Pairwise fun a b => HT.lexLt a b = true := by
     rw [← hback]
     exact List.pairwise_map.mpr hsrt
    exact List.pairwise_map.mp this
   have hne := List.pairwise_map.mp ndp
   exact (hsr.and hne).imp fun {a b} h => lex_p h.2 h.1
end
theorem GA : ∀ {xs ys : List G}, Asc xs → Asc ys → xs.Perm ys → xs = ys
 | [], ys, _, _, h => (List.nil_perm.mp h).symm
 | x :: xs, [], _, _, h => absurd h (by intro z; have := z.length_eq; simp at this)
 | x :: xs, y :: ys, h1, h2, h => by
  obtain ⟨a1, a2⟩ := List.pairwise_cons.mp h1
  obtain ⟨b1, b2⟩ := List.pairwise_cons.mp h2
  have e : x = y := by
   have hx : x ∈ y :: ys := h.mem_iff.mp List.mem_cons_self
   have hy : y ∈ x :: xs := h.mem_iff.mpr List.mem_cons_self
   rcases List.mem_cons.mp hx with e | hx
   ·exact e
   ·rcases List.mem_cons.mp hy with e | hy
    ·exact e.symm
    ·have := a1 y hy
     have := b1 x hx
     lia
  subst e
  rw [GA a2 b2 ((List.perm_cons x).mp h)]
theorem Ax.get {H : Hp} {as : List Addr} {gs : List G} (h : Ax H as gs) {i : Nat} {g : G} (hg : gs[i]? = some g) : ∃ a, as[i]? = some a ∧ H a = some (.tup (G.vs g)) := by
 unfold Ax at h
 induction h generalizing i with
 | nil => simp at hg
 | cons e _ ih =>
  cases i with
  | zero => simp at hg; subst hg; exact ⟨_, rfl, e⟩
  | succ i => exact ih (by simpa using hg)
theorem KQ {as : List Addr} {i : Nat} {a : Addr} (h : as[i]? = some a) : atI (as.map V.ref) (i : Int) = some (V.ref a) := Cb (by rw [List.getElem?_map, h]; rfl)
noncomputable def Pas (a b c d pl f h : Int) : Prop := f * (b * d) ≤ a * d + pl * c * b ∧ a * d + pl * c * b ≤ h * (b * d)
instance (a b c d pl f h : Int) : Decidable (Pas a b c d pl f h) := by unfold Pas; exact inferInstance
theorem M3 {gs : List G} (ha : Asc gs) {i j : Nat} {x y : G} (hx : gs[i]? = some x) (hy : gs[j]? = some y) (hij : i < j) : x.p < y.p := by
 obtain ⟨h1, rfl⟩ := List.getElem?_eq_some_iff.mp hx
 obtain ⟨h2, rfl⟩ := List.getElem?_eq_some_iff.mp hy
 exact List.pairwise_iff_getElem.mp ha i j h1 h2 hij
theorem Ax.fresh {H : Hp} {as : List Addr} {gs : List G} {D : Addr} {o : HO} (h : Ax H as gs) (hD : ∀ ys, H D ≠ some (.tup ys)) : Ax (L2.upd H D o) as gs := by
 induction h with
 | nil => exact .nil
 | cons e _ ih =>
  refine .cons ?_ ih
  rw [AI (fun z => hD _ (z ▸ e))]
  exact e
theorem KB {K : PySem.W.Frag} {a : Addr} {as : List Addr} {gs : List G} {tc : TT} {caps : St} {D : Addr} {H1 : Hp} {Q : Hp → Prop} (P : G → Bool) (hl : SqL K H1 a (as.map V.ref)) (ga : Ax H1 as gs) (hD : H1 D = none) (hz : gs.length ≤ 1000)
  (ht : ∀ v g H (R : Bool → Hp → Prop), g ∈ gs → AH H1 H → H v = some (.tup (G.vs g)) → R (P g) H → tc (some (.ref v) :: caps) H R)
  (hd : ∀ H as', AH H1 H → H D = some (.lst (as'.map V.ref)) → Ax H as' (gs.filter P) → Q H) : CW (Fm 0) tc caps (Itl K a) D H1 Q := by
 have la := ga.len
 refine CG (xs := as.map V.ref) (fun i ys H => ∃ as' : List Addr, ys = as'.map V.ref ∧ AH H1 H ∧ H D = some (.lst ys) ∧ Ax H as' ((gs.take i).filter P) ∧ as'.length ≤ i) ⟨[], rfl, Ac hD, AG, .nil, Nat.le_refl _⟩ (fun _ _ H _ ⟨_, _, s1, _⟩ => s1.seq hl) ?_ ?_
 ·rintro i x ys H hx ⟨as', rfl, s1, e1, g1, l1⟩
  have hi : i < gs.length := by
   have := (List.getElem?_eq_some_iff.mp hx).1
   rw [List.length_map] at this
   lia
  obtain ⟨v, hv, t1⟩ := ga.get (List.getElem?_eq_getElem hi)
  have ex : x = V.ref v := by
   rw [List.getElem?_map, hv] at hx
   exact (Option.some.inj hx).symm
  subst ex
  have et : gs.take (i + 1) = gs.take i ++ [gs[i]] := List.take_succ_eq_append_getElem hi
  refine ht v gs[i] H _ (List.getElem_mem hi) s1 (s1.get t1) ?_
  have hlen : (as.map V.ref).length = gs.length := by rw [List.length_map, la]
  by_cases hp : P gs[i] = true
  ·rw [if_pos hp]
   refine ⟨_, rfl, e1, by rw [List.length_map, PySem.sizeLine_eq]; lia, _, by lia, rfl, by lia, as' ++ [v], by rw [List.map_append]; rfl, s1.updFresh hD, AG, ?_, by rw [List.length_append]; simp; lia⟩
   rw [et, List.filter_append, List.filter_cons, if_pos hp, List.filter_nil]
   exact (g1.snoc (s1.get t1)).fresh (fun ys z => by rw [e1] at z; cases z)
  ·rw [if_neg hp]
   refine ⟨_, by lia, rfl, by lia, as', rfl, s1, e1, ?_, by lia⟩
   rw [et, List.filter_append, List.filter_cons, if_neg hp, List.filter_nil, List.append_nil]
   exact g1
 ·rintro ys H ⟨as', rfl, s1, e1, g1, l1⟩
  rw [List.length_map, la, List.take_length] at g1
  exact hd H as' s1 e1 g1
theorem Paired.get {α β : Type} {F : α → β → Prop} {xs : List α} {ys : List β} (h : Paired F xs ys) {i : Nat} {y : β} (hy : ys[i]? = some y) : ∃ x, xs[i]? = some x ∧ F x y := by
 induction h generalizing i with
 | nil => exact absurd hy (by simp)
 | cons e _ ih =>
  cases i with
  | zero =>
   rw [List.getElem?_cons_zero] at hy ⊢
   cases hy
   exact ⟨_, rfl, e⟩
  | succ i =>
   rw [List.getElem?_cons_succ] at hy ⊢
   exact ih hy
theorem LX {xs : List V} {i : Nat} : GO xs none (some (i : Int)) = xs.take i := by
 unfold GO
 rw [HT.sIx_nat, HT.sIx_none, List.drop_zero, Nat.sub_zero]
 by_cases h : i ≤ xs.length
 ·rw [Nat.min_eq_left h]
 ·rw [Nat.min_eq_right (by lia), List.take_length, List.take_of_length_le (by lia)]
theorem Ax.append {H : Hp} {as bs : List Addr} {gs hs : List G} (h : Ax H as gs) (h' : Ax H bs hs) : Ax H (as ++ bs) (gs ++ hs) := by
 induction h with
 | nil => exact h'
 | cons e _ ih => exact .cons e ih
theorem GK {K : PySem.W.Frag} {a : Addr} {as : List Addr} {gs : List G} {te : TE} {tc : TT} {caps : St} {D : Addr} {H1 : Hp} {Q : Hp → Prop} (P : G → Bool) (f : G → V) (hl : SqL K H1 a (as.map V.ref)) (ga : Ax H1 as gs) (hD : H1 D = none) (hz : gs.length ≤ 1000)
  (ht : ∀ v g H (R : Bool → Hp → Prop), g ∈ gs → AH H1 H → H v = some (.tup (G.vs g)) → R (P g) H → tc (some (.ref v) :: caps) H R)
  (he : ∀ v g H (R : VK), g ∈ gs → AH H1 H → H v = some (.tup (G.vs g)) → R (f g) H → te (some (.ref v) :: caps) H R)
  (hd : ∀ H, AH H1 H → H D = some (.lst ((gs.filter P).map f)) → Q H) : CW te tc caps (Itl K a) D H1 Q := by
 have la := ga.len
 refine CG (xs := as.map V.ref) (fun i ys H => ys = ((gs.take i).filter P).map f ∧ AH H1 H ∧ H D = some (.lst ys)) ⟨rfl, Ac hD, AG⟩ (fun _ _ H _ ⟨_, s1, _⟩ => s1.seq hl) ?_ ?_
 ·rintro i x ys H hx ⟨rfl, s1, e1⟩
  have hi : i < gs.length := by
   have := (List.getElem?_eq_some_iff.mp hx).1
   rw [List.length_map] at this
   lia
  obtain ⟨v, hv, t1⟩ := ga.get (List.getElem?_eq_getElem hi)
  have ex : x = V.ref v := by
   rw [List.getElem?_map, hv] at hx
   exact (Option.some.inj hx).symm
  subst ex
  have et : gs.take (i + 1) = gs.take i ++ [gs[i]] := List.take_succ_eq_append_getElem hi
  have hlen : (as.map V.ref).length = gs.length := by rw [List.length_map, la]
  have hle : (((gs.take i).filter P).map f).length ≤ i := by
   rw [List.length_map]
   exact Nat.le_trans (List.length_filter_le _ _) (List.length_take_le _ _)
  refine ht v gs[i] H _ (List.getElem_mem hi) s1 (s1.get t1) ?_
  by_cases hp : P gs[i] = true
  ·rw [if_pos hp]
   refine he v gs[i] H _ (List.getElem_mem hi) s1 (s1.get t1) ?_
   refine ⟨e1, by rw [PySem.sizeLine_eq]; lia, _, by lia, rfl, by lia, ?_, s1.updFresh hD, AG⟩
   rw [et, List.filter_append, List.filter_cons, if_pos hp, List.filter_nil, List.map_append]
   rfl
  ·rw [if_neg hp]
   refine ⟨_, by lia, rfl, by lia, ?_, s1, e1⟩
   rw [et, List.filter_append, List.filter_cons, if_neg hp, List.filter_nil, List.append_nil]
 ·rintro ys H ⟨rfl, s1, e1⟩
  rw [List.length_map, la, List.take_length] at e1
  exact hd H s1 e1
theorem N1 {gs : List G} (ha : Asc gs) {x y : G} (hx : x ∈ gs) (hy : y ∈ gs) (e : x.p = y.p) : x = y := by
 obtain ⟨i, hi⟩ := List.mem_iff_getElem?.mp hx
 obtain ⟨j, hj⟩ := List.mem_iff_getElem?.mp hy
 rcases Nat.lt_trichotomy i j with c | c | c
 ·have := M3 ha hi hj c
  lia
 ·subst c
  rw [hi] at hj
  exact Option.some.inj hj
 ·have := M3 ha hj hi c
  lia
theorem IN {K : PySem.W.Frag} {a : Addr} {as : List Addr} {gs : List G} {te : TE} {caps : St} {D : Addr} {H1 : Hp} {Q : Hp → Prop} (F : Hp → V → G → Prop) (fs : ∀ H H' v g, AH H H' → F H v g → F H' v g)
  (fd : ∀ H v g xs ys, H D = some (.lst xs) → F H v g → F (L2.upd H D (.lst ys)) v g) (hl : SqL K H1 a (as.map V.ref)) (ga : Ax H1 as gs) (hD : H1 D = none) (hz : gs.length ≤ 1000)
  (he : ∀ v g H (R : VK), g ∈ gs → AH H1 H → H v = some (.tup (G.vs g)) → (∀ y H', AH H H' → F H' y g → R y H') → te (some (.ref v) :: caps) H R)
  (hd : ∀ H ys, AH H1 H → H D = some (.lst ys) → Paired (F H) ys gs → Q H) : CW te CU caps (Itl K a) D H1 Q := by
 have la := ga.len
 have hlen : (as.map V.ref).length = gs.length := by rw [List.length_map, la]
 refine CG (xs := as.map V.ref) (fun i ys H => AH H1 H ∧ H D = some (.lst ys) ∧ Paired (F H) ys (gs.take i)) ⟨Ac hD, AG, .nil⟩ (fun _ _ H _ ⟨s1, _⟩ => s1.seq hl) ?_ ?_
 ·rintro i x ys H hx ⟨s1, e1, pr⟩
  have hi : i < gs.length := by
   have := (List.getElem?_eq_some_iff.mp hx).1
   lia
  obtain ⟨v, hv, t1⟩ := ga.get (List.getElem?_eq_getElem hi)
  have ex : x = V.ref v := by
   rw [List.getElem?_map, hv] at hx
   exact (Option.some.inj hx).symm
  subst ex
  have et : gs.take (i + 1) = gs.take i ++ [gs[i]] := List.take_succ_eq_append_getElem hi
  have hle : ys.length ≤ i := by
   rw [Paired.length pr]
   exact List.length_take_le _ _
  unfold CU
  dsimp only
  rw [if_pos rfl]
  refine he v gs[i] H _ (List.getElem_mem hi) s1 (s1.get t1) fun y H' s2 fy => ?_
  refine ⟨s2.get e1, by rw [PySem.sizeLine_eq]; lia, _, by lia, rfl, by lia, (s1.trans s2).updFresh hD, AG, ?_⟩
  rw [et]
  have e2 := s2.get e1
  have pr2 := Paired.mapP pr fun v g h => fd _ _ _ _ (ys ++ [y]) e2 (fs _ _ _ _ s2 h)
  have app : ∀ {α β : Type} {F : α → β → Prop} {l : List α} {r : List β} {x : α} {y : β}, Paired F l r → F x y → Paired F (l ++ [x]) (r ++ [y]) := by
   intro α β F l r x y h hxy
   induction h with
   | nil => exact .cons hxy .nil
   | cons h1 _ ih => exact .cons h1 ih
  exact app pr2 (fd _ _ _ _ _ e2 fy)
 ·rintro ys H ⟨s1, e1, pr⟩
  rw [hlen, List.take_length] at pr
  exact hd H ys s1 e1 pr
end TG
namespace L2
open PySem PySem.Spec PyProof.Rows
theorem A5.here {P : Program} {w : World} {H : Hp} {h : Heap} {a : Addr} {o : HO} (x : A5 P w H h a o) : ∃ ob, h.get? a = some ob := by
 cases q : h.get? a with
 | some ob => exact ⟨ob, rfl⟩
 | none =>
  exfalso
  have x' : A5 P w H h a o := x
  induction o with
  | lst xs => obtain ⟨_, _, _, _, e⟩ := x'; rw [q] at e; cases e
  | tup xs => obtain ⟨_, _, _, o, e, _⟩ := x'; rw [q] at e; cases e
  | dK kvs => obtain ⟨_, _, _, _, o, _, _, e, _⟩ := x'; rw [q] at e; cases e
  | dT kvs => obtain ⟨_, _, _, _, o, _, _, e, _⟩ := x'; rw [q] at e; cases e
  | set S n => obtain ⟨o, _, _, _, e, _⟩ := x'; rw [q] at e; cases e
  | ins C dx fs => obtain ⟨_, _, _, e, _⟩ := x'; rw [q] at e; cases e
  | own b => obtain ⟨o, e⟩ := x'; rw [q] at e; cases e
  | xd fs => obtain ⟨_, ⟨o, _, _, e, _⟩, _⟩ := x'; rw [q] at e; cases e
  | rng lo hi => obtain ⟨_, _, _, e⟩ := x'; rw [q] at e; cases e
  | frz o u ih => exact ih x'.2 x'.2
  | tbl ps => have e : h.get? a = _ := x'; rw [q] at e; cases e
  | met f y => have e : h.get? a = _ := x'; rw [q] at e; cases e
  | ext φ => obtain ⟨_, ⟨o, e⟩, _⟩ := x'; rw [q] at e; cases e
noncomputable def Fly (l : List Env) (hs : Heap) (H' : Hp) (ea : Addr) (cls : Value) (h : Heap) : Prop :=
 ∃ (B : Heap) (a0 : Value), Heap.FlyingW B l ea cls a0 h ∧ (∀ b o, hs.get? b = some o → b ∉ frs l → ∃ o', B.get? b = some o') ∧ ∀ b, H' b ≠ none → ∃ o', B.get? b = some o'
noncomputable def CXE (P : Program) (w : World) : CXT := fun outer H s E e s' => ∃ (ea : Addr) (cls : Value) (H' : Hp), e = .ref ea ∧ s'.os = s.os ∧ AllBare s'.gens ∧ Un (frs outer) [] H H' s.heap s'.heap ∧ HOk P w H' s'.heap ∧ Fly outer s.heap H' ea cls s'.heap ∧ E cls none H'
section
variable {X : Cx} {pins : List (Addr × Obj)} {σ σ1 : St} {H H1 H' : Hp} {s s1 s' : Shared} {h' B : Heap} {ea : Addr} {cls : Value}
theorem Inv.notStack (I : Inv X pins σ H s) {b : Addr} {o : Obj} (e : X.s₀.heap.get? b = some o) (hb : b ∉ X.fs) : b ∉ frs X.stack := fun hm => by
 rcases List.mem_cons.mp (I.stkSub b hm) with z | z
 ·exact absurd (Nat.lt_of_lt_of_le (Heap.lt_size e) I.ok.above) (by rw [z]; exact Nat.lt_irrefl _)
 ·exact hb z
theorem Inv.fly (I1 : Inv X pins σ1 H1 s1) (I : Inv X pins σ H s) (hB : B.StaysIn s.heap) (hB' : B.StaysIn h') (up : s.heap.UpToSlots h')
  (c1 : ∀ b o, s1.heap.get? b = some o → b ∉ frs X.stack → ∃ o', B.get? b = some o') (c2 : ∀ b, H b ≠ none → ∃ o', B.get? b = some o') : Inv X pins σ H { s with heap := h' } := by
 have via : ∀ b o, s.heap.get? b = some o → (∃ o', B.get? b = some o') → h'.get? b = some o := fun b o e ⟨o', eb⟩ => by
  have := hB b o' eb
  rw [e] at this
  cases this
  exact hB' b o eb
 have slot : ∀ b o, X.s₀.heap.get? b = some o → X.H₀ b = none → b ∈ X.fs → b ∉ X.ex → ∃ sl, h'.get? b = some { o with slots := sl } := fun b o e n hb hx => by
  obtain ⟨sl, e1⟩ := I.base.slot b o e n hb hx
  obtain ⟨_, of, hof, hnf⟩ := I.ok.funs.mem hb
  rw [e] at hof
  cases hof
  obtain ⟨sl', e2⟩ := up b _ e1 hnf
  exact ⟨sl', e2⟩
 have cellK : ∀ c v, s.heap.IsCell c v → h'.IsCell c v := fun c v ⟨o, ho, hd⟩ => by
  obtain ⟨sl, e⟩ := up c o ho (fun vs q => by rw [hd] at q; cases q)
  exact ⟨_, e, hd⟩
 refine ⟨I.ok, I.os, I.bare, ⟨fun b o e n hb hx => ?_, slot, I.base.free, fun b o e hx => ?_, I.base.tups, I.base.frzs, I.base.tbls⟩, ?_, fun x c e => ?_, I.free, I.freeC, fun p hp => ?_, fun b u e => ?_, I.len⟩
 ·exact via b o (I.base.keep b o e n hb hx) (c1 b o (I1.base.keep b o e n hb hx) (I.notStack e hb))
 ·by_cases hb : b ∈ X.fs
  ·obtain ⟨sl, q⟩ := slot b o e (I.ok.frf b hb) hb hx
   exact ⟨_, q⟩
  ·obtain ⟨o1, a1⟩ := I1.base.there b o e hx
   obtain ⟨o', eb⟩ := c1 b o1 a1 (I.notStack e hb)
   exact ⟨o', hB' b o' eb⟩
 ·obtain ⟨m, hn, hl⟩ := I.loc
  refine ⟨m, up.ns hn, fun i x v e1 e2 e3 => ?_⟩
  obtain ⟨u, r, l⟩ := hl i x v e1 e2 e3
  refine ⟨u, r, ?_⟩
  rcases l with l | ⟨k, c, e, z⟩
  ·exact .inl l
  ·exact .inr ⟨k, c, e, cellK c _ z⟩
 ·obtain ⟨v, z⟩ := I.cell x c e
  exact ⟨v, cellK c v z⟩
 ·obtain ⟨e, n, ne, nf, d⟩ := I.pin p hp
  refine ⟨via p.1 p.2 e (c1 p.1 p.2 (I1.pin p hp).1 fun hm => ?_), n, ne, nf, d⟩
  rcases List.mem_cons.mp (I.stkSub _ hm) with z | z
  ·exact ne z
  ·exact nf z
 ·refine (I.hok b u e).stay (fun c v hc q => via c v q (c2 c ?_)) (fun _ q => q) fun _ _ q => q
  rcases hc with z | z
  ·rw [z, e]; simp
  ·rw [z]; simp
structure Arr (X : Cx) (pins : List (Addr × Obj)) (σ : St) (ea : Addr) (cls : Value) (H' : Hp) (s' : Shared) : Prop where
 inv : Inv X pins σ H' s'
 fly : ∃ (H1 : Hp) (s1 : Shared), Inv X pins σ H1 s1 ∧ Fly X.stack s1.heap H' ea cls s'.heap
theorem NI {E : XK} {e : Value} (I : Inv X pins σ H s) (h : CXE X.prog X.w X.stack H s E e s') : ∃ ea cls H', e = .ref ea ∧ Arr X pins σ ea cls H' s' ∧ E cls none H' := by
 obtain ⟨ea, cls, H', rfl, os, bare, un, hok, fl, hE⟩ := h
 exact ⟨ea, cls, H', rfl, ⟨I.call' (ch := []) os un hok bare (fun b z => absurd z (by simp)), H, s, I, fl⟩, hE⟩
end
section
variable {P : Program} {w : World} {K : PySem.W.Frag} {mg : Str → Option Value} {base : Heap} {N : List Str} {qual : Str} {scope : Scope} {f : Addr} {cd : Value} {A : Around} {outer : List Env} {s : Shared} {H : Hp} {E : XK}
 {pins : List (Addr × Obj)} {σ : St} {H1 H' : Hp} {s1 s' : Shared} {ea : Addr} {cls : Value} {h' : Heap} {args : List Value}
theorem P5 (a : Arr (Au (CXE P w) P w K mg base N qual scope f cd A outer s H E) pins σ ea cls H' s') (hE : E cls none H') : (Au (CXE P w) P w K mg base N qual scope f cd A outer s H E).xe (.ref ea) s' := by
 obtain ⟨I, H1, s1, I1, B, a0, fl, c1, c2⟩ := a
 refine wpAny_leaves_onW (A := A.deeper (envOfC qual scope s.heap.objs.size f cd)) (env := envOfC qual scope s.heap.objs.size f cd) (outer := outer) I.ok.frames rfl fl fun h' fl' up => ?_
 have I2 := Inv.fly I1 I fl.1 fl'.1 up c1 c2
 refine ⟨ea, cls, H', rfl, I2.os, I2.bare, I2.base, I2.hok, ⟨B, a0, fl', fun b o e hb => ?_, c2⟩, hE⟩
 obtain ⟨o1, a1⟩ := I1.base.there b o e (fun z => absurd (show b ∈ ([] : List Addr) from z) (by simp))
 exact c1 b o1 a1 (I.notStack e hb)
theorem Ow (I : Inv (Au (CXE P w) P w K mg base N qual scope f cd A outer s H E) pins σ H1 s1) (hx : Heap.MadeExcOf s1.heap h' ea cls args) (hE : E cls none H1) : (Au (CXE P w) P w K mg base N qual scope f cd A outer s H E).xe (.ref ea) { s1 with heap := h' } := by
 have hin : ∀ env ∈ (envOfC qual scope s.heap.objs.size f cd :: outer), ∀ b, env.frame = some b → b ∈ frs (envOfC qual scope s.heap.objs.size f cd :: outer) := fun env he b hb => List.mem_filterMap.mpr ⟨env, he, hb⟩
 have hfun : s1.heap.FunFrames (PySem.W.hideAll s1.heap (frs (envOfC qual scope s.heap.objs.size f cd :: outer))) (envOfC qual scope s.heap.objs.size f cd :: outer) := PySem.W.funFrames_hide I.stack hin
 have c1 : ∀ b o, s1.heap.get? b = some o → b ∉ frs (envOfC qual scope s.heap.objs.size f cd :: outer) → ∃ o', (PySem.W.hideAll s1.heap (frs (envOfC qual scope s.heap.objs.size f cd :: outer))).get? b = some o' := fun b o e hb => ⟨o, PySem.W.hideAll_get _ e hb⟩
 have c2 : ∀ b, H1 b ≠ none → ∃ o', (PySem.W.hideAll s1.heap (frs (envOfC qual scope s.heap.objs.size f cd :: outer))).get? b = some o' := fun b n => by
  cases q : H1 b with
  | none => exact absurd q n
  | some o =>
   obtain ⟨ob, e⟩ := (I.hok b o q).here
   exact ⟨ob, PySem.W.hideAll_get _ e fun z => by rw [I.stkFree b z] at q; cases q⟩
 refine wpAny_leaves_madeW (A := A.deeper (envOfC qual scope s.heap.objs.size f cd)) (s := { s1 with heap := h' }) (env := envOfC qual scope s.heap.objs.size f cd) (outer := outer) I.ok.frames rfl (fun b o q => PySem.W.of_hideAll _ q) hfun hx fun h'' t fl tup tn up => ?_
 have I' : Inv (Au (CXE P w) P w K mg base N qual scope f cd A outer s H E) pins σ H1 { s1 with heap := h' } := I.kept (t' := s1.toks) hx.keeps
 have I2 := Inv.fly (h' := h'') I I' (fun b o q => hx.keeps b o (PySem.W.of_hideAll _ q)) fl.1 up c1 c2
 refine ⟨ea, cls, H1, rfl, I2.os, I2.bare, I2.base, I2.hok, ⟨_, _, fl, fun b o e hb => ?_, c2⟩, hE⟩
 obtain ⟨o1, a1⟩ := I.base.there b o e (fun z => absurd (show b ∈ ([] : List Addr) from z) (by simp))
 exact c1 b o1 a1 (I.notStack e hb)
theorem BG : Cy (CXE P w) (Au (CXE P w) P w K mg base N qual scope f cd A outer s H E) E := fun pins σ H s e s' I h => by
 obtain ⟨ea, cls, H', rfl, arr, hE⟩ := NI I h
 exact P5 arr hE
theorem ownE : PassesOwn (model P w) (Au (CXE P w) P w K mg base N qual scope f cd A outer s H E).A (Au (CXE P w) P w K mg base N qual scope f cd A outer s H E).env (Au (CXE P w) P w K mg base N qual scope f cd A outer s H E).xe := PassesOwn.leaving (Q₁ := fun e s'' => CXE P w outer H s E e s'')
theorem Fun.okX {x qual : Str} {st : Stmt} {f : Addr} {fd : FuncData} {N ps : List Str} {k : Nat} {sp : Sp} (F : Fun K x qual st f fd) (S : AN N ps (AF st)) (len : ∀ vs H Q E, sp vs H Q E → vs.length = ps.length)
  (hbody : ∀ (cdv : Value) (A : Around) (outer : List Env) (s : Shared) (H : Hp) (vs : List V) (Q : VK) (E : XK), BY k (A.deeper (envOfC qual (AF st) s.heap.objs.size f cdv)) → sp vs H Q E →
   ∃ t, PSs (Au (CXE P w) P w K mg base N qual (AF st) f cdv A outer s H E) (A1 st) t ∧ t { nx := fun _ H' => Q .non H', rt := Q } (start N vs) H) : Ag P w K mg base (CXE P w) (k + 1) f fd ps sp := by
 obtain ⟨oc, od, kV, doc, pm, an, cdv, ct, osl, rfl, lk, hcd⟩ := F.ex
 exact Nh lk hcd S len fun A outer s H vs Q E hr hsp => hbody cdv A outer s H vs Q E hr hsp
end
structure DM (K : PySem.W.Frag) (C : Addr) (x qual : Str) (st : Stmt) (ps : List Str) (f : Addr) (fd : FuncData) : Prop where
 F : Fun K x qual st f fd
 mt : Nb K C x f
 b : Binds K fd ps []
noncomputable abbrev bmV : List Value := [.type "ValueError", .type "Exception", .type "BaseException", .type "object"]
noncomputable abbrev C9 (K : PySem.W.Frag) (C : Addr) : Prop := PySem.W.excIn K C bmV "ValueError.__new__" = true
theorem toArr {α : Type} {sl : Array α} {l : List α} (e : sl.toList = l) : sl = l.toArray := by rw [← e]
theorem C9.rec {K : PySem.W.Frag} {C : Addr} (q : C9 K C) : ∃ (dd : Option Addr) (cd : ClassData) (bm : List Value) (k0 k1 k2 k3 k5 : Option Value),
  K.lookup C = some ⟨.type "type", dd, .cls cd, #[k0, k1, k2, k3, some (.builtin "ValueError.__new__"), k5]⟩ ∧ cd.mro = .ref C :: bm ∧ cd.hasDel = false ∧ PySem.W.tailIn K bmV bm = true ∧ PySem.W.nsOkIn K cd.ns = true ∧ PySem.W.nsIn K cd.ns "__init__" = some none := by
 simp only [C9, PySem.W.excIn] at q
 repeat' split at q
 all_goals first | exact absurd q Bool.false_ne_true | skip
 next dd cd sl hK mr ll C' bm k0 k1 k2 k3 n k5 e1 e2 =>
  rw [toArr e2] at hK
  simp only [Bool.and_eq_true] at q
  obtain ⟨⟨⟨⟨⟨h1, h2⟩, h3⟩, h4⟩, h5⟩, h6⟩ := q
  have h1 : C' = C := by simpa using h1
  have h2 : n = "ValueError.__new__" := by simpa using h2
  subst h1 h2
  exact ⟨dd, cd, bm, k0, k1, k2, k3, k5, hK, e1, by simpa using h3, h4, h5, by simpa using h6⟩
theorem C9.own {K : PySem.W.Frag} {C : Addr} {x : Str} {mg : Str → Option Value} {h : Heap} (q : C9 K C) (X : K.In h) (hm : mg x = some (.ref C)) : OwnCls x C bmV "ValueError.__new__" mg h := by
 obtain ⟨dd, cd, bm, k0, k1, k2, k3, k5, hK, e1, e2, e3, e4, e5⟩ := q.rec
 have ns : h.Ns cd.ns (h.nsMap cd.ns) := .of_isNs (PySem.W.isNs_of_in X e4)
 have no : h.nsMap cd.ns "__init__" = none := PySem.W.nsMap_none_of_in X e4 e5
 have tl := PySem.W.tail_of_in X e3
 rcases cd with ⟨a1, a2, a3, a4, a5, a6, a7, a8, a9, a10, a11⟩
 simp only at e1 e2
 subst e1 e2
 exact ⟨hm, bm, a4, a1, a5, a2, a6, a7, a8, a9, a10, dd, k0, k1, k2, k3, k5, _, X _ _ hK, ns, no, tl⟩
noncomputable def PF (X : Cx) (E : XK) : Prop := ∀ (pins : List (Addr × Obj)) (σ : St) (H : Hp) (s : Shared) (h' : Heap) (ea : Addr) (cls : Value) (args : List Value), Inv X pins σ H s → Heap.MadeExcOf s.heap h' ea cls args → E cls none H → X.xe (.ref ea) { s with heap := h' }
theorem Dt {P : Program} {w : World} {K : PySem.W.Frag} {mg : Str → Option Value} {base : Heap} {N : List Str} {qual : Str} {scope : Scope} {f : Addr} {cd : Value} {A : Around} {outer : List Env} {s : Shared} {H : Hp} {E : XK} : PF (Au (CXE P w) P w K mg base N qual scope f cd A outer s H E) E := fun _ _ _ _ _ _ _ _ I hx hE => Ow I hx hE
section
variable {X : Cx} {E : XK} {x : Str} {C : Addr} {np cpos pos : Pos} {e : Expr} {es : List Expr} {t : TA}
noncomputable def Ev (C : Addr) (E : XK) (t : TA) : TS := fun _ σ H => t σ H fun vs H1 => vs.length ≤ sizeLine ∧ E (.ref C) none H1
theorem BK (hp : PF X E) (hc : X.calm = true) (q : C9 X.K C) (hg : Gl X x) (hm : X.mg x = some (.ref C)) (ha : PA X (e :: es) t) (hdb : (x == ("__debug__" : Str)) = false := by decide)
  (he : starEach (e :: es) X.env = (false, eval e X.env) :: starEach es X.env := by rfl) (hpl : (backTo cpos (starEach es X.env)).any (·.1) = false := by rfl) :
  PS X (.Raise (some (.Call (.Name x np) (e :: es) [] cpos)) none pos) (Ev C E t) := by
 intro pins s σ H D I h
 obtain ⟨tl, N, nm, q', bs, hdct, sn, sub, ab, col, dd, k0, k1, k2, k3, k5, mN, hC, hN, hni, T⟩ := (C9.own q I.mod.kin hm).obj
 refine wpAny_Raise_call_subT (C := C) (nm := nm) (q := q') (N := N) (bs := bs) (bm := tl) (hdct := hdct) (sn := sn) (sub := sub) (ab := ab) (col := col) (dd := dd) (k0 := k0) (k1 := k1) (k2 := k2) (k3 := k3) (k5 := k5)
  PySem.F.excBase_ValueError (mN := mN) (T.hasType PySem.F.excBase_ValueError.hasBase) (I.ok.hd hc) (by rw [he]; show (false || (backTo cpos (starEach es X.env)).any (·.1)) = false; rw [hpl]; rfl) hni (DO I hg hm ⟨rfl, ?_⟩ hdb)
 have hs := ha cpos pins s σ H _ I h
 rw [he] at hs ⊢
 refine Calls.evalArgs_plain (thn hs fun us s1 zq => ?_)
 obtain ⟨vs, H1, I1, r, z, hE⟩ := zq
 exact ⟨rfl, by rw [← r.length]; exact z, I1.bk _ _ hC, hN.keeps I1.bk, T.keeps I1.bk, fun h' ea hx => hp pins σ H1 s1 h' ea (.ref C) us I1 hx hE⟩
end
noncomputable def HF (X : Cx) (N : Value → St → Hp → Prop) : Prop := ∀ (pins : List (Addr × Obj)) (σ : St) (H : Hp) (s : Shared) (e : Value) (s' : Shared), Inv X pins σ H s → CXE X.prog X.w X.stack H s (fun cls _ H' => N cls σ H') e s' → X.xe e s'
section
variable {X : Cx} {k : Nat} {f C : Addr} {fd : FuncData} {ps : List Str} {sp : Sp} {dvs : List V} {ds : List Value} {N : Value → St → Hp → Prop} {x m : Str} {p pos apos : Pos} {e o : Expr} {es : List Expr} {ta : TE} {t : TA}
theorem Ou {pins : List (Addr × Obj)} {σ : St} {H : Hp} {s : Shared} {Q : VK} {us : List Value} {vs : List V} (F : Ag X.prog X.w X.K X.mg X.base (CXE X.prog X.w) k f fd ps sp) (hr : BY k X.A) (hb : Binds X.K fd ps ds) (hd : AX dvs ds) (hx : HF X N)
  (I : Inv X pins σ H s) (r : AX vs us) (h : sp (vs ++ dvs) H Q (fun cls _ H' => N cls σ H')) : wpAny (model X.prog X.w) X.A (call (.ref f) us) (EP X pins σ Q) X.xe s := by
 have r2 : AX (vs ++ dvs) (us ++ ds) := r.append hd
 have hl : (us ++ ds).length = ps.length := by rw [← r2.length]; exact F.len _ _ _ _ h
 refine wpAny_call (codeAny_mono (F.run X.A X.stack s H ⟨us, []⟩ (us ++ ds) (vs ++ dvs) Q _ hr I.env0 (hb s us I.kIn hl) r2 h) fun r s' hq => ?_)
 cases r with
 | error e => exact hx pins σ H s e s' I hq
 | ok fl =>
  cases fl with
  | ret u => exact I.after hq
  | next => exact False.elim hq
  | brk => exact False.elim hq
  | cont => exact False.elim hq
noncomputable def K9 (sp : Sp) (dvs : List V) (N : Value → St → Hp → Prop) (t : TA) : TE := fun σ H Q => t σ H fun vs H1 => sp (vs ++ dvs) H1 Q (fun cls _ H' => N cls σ H')
theorem KN (F : Ag X.prog X.w X.K X.mg X.base (CXE X.prog X.w) k f fd ps sp) (hr : BY k X.A) (hg : Gl X x) (hm : X.mg x = some (.ref f)) (hk : PySem.W.keepIn X.K (.ref f) = true) (hb : Binds X.K fd ps ds) (hd : AX dvs ds) (hx : HF X N)
  (ha : PA X (e :: es) t) (hdb : (x == ("__debug__" : Str)) = false := by decide) (he : starEach (e :: es) X.env = (false, eval e X.env) :: starEach es X.env := by rfl) (hpl : (backTo pos (starEach es X.env)).any (·.1) = false := by rfl) :
  PE X (.Call (.Name x p) (e :: es) [] pos) (K9 sp dvs N t) := by
 intro pins s σ H Q I h
 refine wpAny_Call_Name_kw (DO I hg hm ?_ hdb)
 refine PySem.W.callWith_K (h₀ := X.base) I.ok.mod.kin hk (thn (ha pos pins s σ H _ I h) fun us s1 ⟨vs, H1, I1, r, q⟩ => ⟨I1.kIn, ?_⟩) he hpl
 exact Ou F hr hb hd hx I1 r q
end
noncomputable abbrev Cx.caught (X : Cx) (e : Value) (pn : List (Addr × Obj)) : Cx := { X with A := X.A.mark (some e), calm := false, pn := pn, xe := fun _ _ => False }
noncomputable abbrev Cx.trying (X : Cx) (pn : List (Addr × Obj)) (E : Value → Shared → Prop) : Cx := { X with pn := pn, xe := E }
theorem Inv.caught {X : Cx} {pins : List (Addr × Obj)} {σ : St} {H : Hp} {s : Shared} (I : Inv X pins σ H s) (e : Value) : Inv (X.caught e (X.pn ++ pins)) [] σ H s :=
 ⟨⟨I.ok.mod, I.ok.kind, I.ok.glob, I.ok.blt, I.ok.above, I.ok.inj, I.ok.has, I.ok.cab, (fun z => nomatch z), I.ok.frames, I.ok.stk, I.ok.exf, I.ok.bs, I.ok.bsz, I.ok.noex, I.ok.exfs, I.ok.funs, I.ok.frf⟩, I.os, I.bare, I.base, I.loc, I.cell, I.free, I.freeC, fun p hp => I.pin p (by simpa using hp), I.hok, I.len⟩
theorem Inv.uncaught {X : Cx} {pins : List (Addr × Obj)} {σ : St} {H : Hp} {s : Shared} {e : Value} (ok : X.Ok) (I : Inv (X.caught e (X.pn ++ pins)) [] σ H s) : Inv X pins σ H s :=
 ⟨ok, I.os, I.bare, I.base, I.loc, I.cell, I.free, I.freeC, fun p hp => I.pin p (by simpa using hp), I.hok, I.len⟩
theorem Inv.trying {X : Cx} {pins : List (Addr × Obj)} {σ : St} {H : Hp} {s : Shared} (I : Inv X pins σ H s) (E : Value → Shared → Prop) : Inv (X.trying (X.pn ++ pins) E) [] σ H s :=
 ⟨⟨I.ok.mod, I.ok.kind, I.ok.glob, I.ok.blt, I.ok.above, I.ok.inj, I.ok.has, I.ok.cab, I.ok.hd, I.ok.frames, I.ok.stk, I.ok.exf, I.ok.bs, I.ok.bsz, I.ok.noex, I.ok.exfs, I.ok.funs, I.ok.frf⟩, I.os, I.bare, I.base, I.loc, I.cell, I.free, I.freeC, fun p hp => I.pin p (by simpa using hp), I.hok, I.len⟩
theorem Inv.tried {X : Cx} {pins more : List (Addr × Obj)} {σ : St} {H : Hp} {s : Shared} {E : Value → Shared → Prop} (ok : X.Ok) (I : Inv (X.trying (X.pn ++ pins) E) more σ H s) : Inv X pins σ H s :=
 ⟨ok, I.os, I.bare, I.base, I.loc, I.cell, I.free, I.freeC, fun p hp => I.pin p (List.mem_append_left _ hp), I.hok, I.len⟩
noncomputable def tHs (K : PySem.W.Frag) : List (Value × TS) → Value → En → St → Hp → Prop
 | [], _, _, _, _ => False
 | (c, th) :: r, cls, D, σ, H => ∃ b, PySem.W.exmOne K cls c = some b ∧ if b = true then th D σ H else tHs K r cls D σ H
inductive PHs (X : Cx) : List ExceptHandler → List (Value × TS) → Prop
 | nil : PHs X [] []
 | cons {x : Str} {c : Value} {np pos : Pos} {b₀ : Stmt} {suite : List Stmt} {th : TS} {hs : List ExceptHandler} {ths : List (Value × TS)} (hg : Gl X x) (hm : X.mg x = some c) (hd : (x == ("__debug__" : Str)) = false)
   (hb : ∀ e pn, PSs (X.caught e pn) (b₀ :: suite) th) (r : PHs X hs ths) : PHs X (.ExceptHandler (some (.Name x np)) none (b₀ :: suite) pos :: hs) ((c, th) :: ths)
section
variable {X : Cx} {pins : List (Addr × Obj)} {D : En}
theorem SP.map {X Y : Cx} {pins pins' : List (Addr × Obj)} {D : En} {f : Flow} {s : Shared} (k : ∀ σ H, Inv X pins σ H s → Inv Y pins' σ H s) (h : SP X pins D f s) : SP Y pins' D f s := by
 cases f with
 | next => obtain ⟨σ, H, I, q⟩ := h; exact ⟨σ, H, k _ _ I, q⟩
 | brk => obtain ⟨σ, H, I, q⟩ := h; exact ⟨σ, H, k _ _ I, q⟩
 | cont => obtain ⟨σ, H, I, q⟩ := h; exact ⟨σ, H, k _ _ I, q⟩
 | ret u => obtain ⟨v, σ, H, I, r, q⟩ := h; exact ⟨v, σ, H, k _ _ I, r, q⟩
theorem G4 (hfr : X.env.frame = some X.env.locals) (hst : X.stack = X.env :: X.outer) {ea : Addr} {cls : Value} : ∀ {hs : List ExceptHandler} {ths : List (Value × TS)}, PHs X hs ths → ∀ {σ : St} {H : Hp} {s : Shared}, Arr X pins σ ea cls H s → tHs X.K ths cls D σ H →
  wpAny (model X.prog X.w) X.A (handleBy (.ref ea) X.env hs) (SP X pins D) X.xe s
 | _, _, .nil, _, _, _, _, h => h.elim
 | _, _, .cons (x := x) (c := c) (b₀ := b₀) (suite := suite) (th := th) hg hm hd hb r, σ, H, s, a, h => by
  obtain ⟨I, H1, s1, I1, B, a0, fl, c1, c2⟩ := a
  obtain ⟨b, hx, hq⟩ := h
  refine wpAny_handleBy_cons ?_ (by intro q; cases q)
  refine codeAny_handlers_test ?_
  have Ic := I.caught (.ref ea)
  refine DO (X := X.caught (.ref ea) (X.pn ++ pins)) Ic hg hm ?_ hd
  obtain ⟨ob, hob, hc⟩ := fl.there
  have LT : PySem.W.Looks (model X.prog X.w) s.heap (typeOf (.ref ea)) cls := by
   subst hc
   exact (PySem.W.Looks.ld hob).andThen .now
  refine (PySem.W.exm_one I.kIn LT hx).here ?_
  cases b with
  | false =>
   exact G4 hfr hst r ⟨I, H1, s1, I1, B, a0, fl, c1, c2⟩ (by simpa using hq)
  | true =>
   rw [if_pos rfl] at hq
   refine codeAny_handlers_suite ?_
   refine lands_againW fl fun h6 fl6 up6 => ?_
   have I6 : Inv X pins σ H { s with heap := h6 } := Inv.fly I1 I fl.1 fl6.1 up6 c1 c2
   refine A3 (thn (hb (.ref ea) (X.pn ++ pins) [] _ σ H D (I6.caught _) hq) fun f s2 h2 => ?_)
   exact SP.map (fun _ _ J => J.uncaught I.ok) h2
noncomputable def lookX (X : Cx) (pins : List (Addr × Obj)) (D : En) (hs : List ExceptHandler) : Value → Shared → Prop := fun e s1 => wpAny (model X.prog X.w) X.A (noteFrame e X.env) (fun _ s2 => wpAny (model X.prog X.w) X.A (setFlight e none) (fun _ s3 =>
 wpAny (model X.prog X.w) X.A (handleBy e X.env hs) (SP X pins D) X.xe s3) X.xe s2) X.xe s1
noncomputable def tTry (K : PySem.W.Frag) (tb : (Value → St → Hp → Prop) → TS) (ths : List (Value × TS)) : TS := fun D σ H => tb (fun cls σ' H' => tHs K ths cls D σ' H') D σ H
theorem Q6 {body : List Stmt} {h₀ : ExceptHandler} {hs : List ExceptHandler} {ths : List (Value × TS)} {tb : (Value → St → Hp → Prop) → TS} {pos : Pos} (hfr : X.env.frame = some X.env.locals) (hst : X.stack = X.env :: X.outer)
  (hb : ∀ N pn xe, HF (X.trying pn xe) N → PSs (X.trying pn xe) body (tb N)) (hh : PHs X (h₀ :: hs) ths) : PS X (.Try body (h₀ :: hs) [] [] pos) (tTry X.K tb ths) := by
 intro pins s σ H D I h
 refine wpAny_Try_except ?_
 have pass : HF (X.trying (X.pn ++ pins) (lookX X pins D (h₀ :: hs))) (fun cls σ' H' => tHs X.K ths cls D σ' H') := fun pins' σ' H1 s1 e s' I' hx => by
  obtain ⟨ea, cls, H', rfl, a, hN⟩ := NI I' hx
  obtain ⟨J, H2, s2, J2, B, a0, fl, c1, c2⟩ := a
  have J' : Inv X pins σ' H' s' := J.tried I.ok
  have J2' : Inv X pins σ' H2 s2 := J2.tried I.ok
  have fl : Heap.FlyingW B X.stack ea cls a0 s'.heap := fl
  have c1 : ∀ b o, s2.heap.get? b = some o → b ∉ frs X.stack → ∃ o', B.get? b = some o' := c1
  rw [hst] at fl
  refine wpAny_looks_onW (A := X.A) (by rw [I.ok.frames, hst]) hfr fl fun h4 held4 up4 => ?_
  refine wpAny_landsW held4 fun h5 fl5 up5 => ?_
  have up := up4.trans up5
  have I5 : Inv X pins σ' H' { s' with heap := h5 } := Inv.fly J2' J' fl.1 fl5.1 up c1 c2
  refine G4 hfr hst hh ⟨I5, H2, s2, J2', B, a0, by rw [hst]; exact fl5, c1, c2⟩ hN
 refine wpAny_mono (hb _ _ _ pass [] s σ H D (I.trying _) h) (fun f s1 h1 => ?_) fun e s1 h1 => h1
 have h1 : SP X pins D f s1 := SP.map (fun _ _ J => J.tried I.ok) h1
 cases f with
 | next => exact wpAny_execs_nil h1
 | brk => exact h1
 | cont => exact h1
 | ret u => exact h1
end
theorem Lo : ∀ {us : List Value} {ns : List Int}, IntsAre us ns → AX (ns.map V.int) us
 | _, _, .nil => .nil
 | _, _, .cons n t r => .cons ⟨t, rfl⟩ (Lo r)
section
variable {X : Cx}
theorem Nf {pins : List (Addr × Obj)} {σ : St} {H : Hp} {s : Shared} {Q : VK} {ns ns' : List Int} {out : List Value} {h' : Heap} {D : Addr} {c tk : Nat} (I : Inv X pins σ H s) (hD : s.heap.objs.size ≤ D) (kp : ∀ b o, s.heap.get? b = some o → h'.get? b = some o)
  (hat : h'.get? D = some (seqObj "list" out.toArray c)) (a1 : IntsAre out ns') (a2 : ns'.Perm ns) (hl : ns.length < 64) (q : H D = none → AH H (upd H D (.lst (ns'.map V.int))) → upd H D (.lst (ns'.map V.int)) D = some (.lst (ns'.map V.int)) → Q (.ref D) (upd H D (.lst (ns'.map V.int)))) :
  EP X pins σ Q (.ref D) { s with heap := h', toks := tk } := by
 have hfr : H D = none := I.hok.fresh hD
 have hv := Lo a1
 refine ⟨.ref D, _, I.laid (t' := tk) (o := .lst (ns'.map V.int)) kp hD ⟨by rw [List.length_map, a2.length_eq, PySem.sizeLine_eq]; lia, out, c, hv, hat⟩, rfl, q hfr (Ac hfr) AG⟩
noncomputable def Kr (K : PySem.W.Frag) : List V → Hp → VK → Prop := fun xs H Q => ∃ d, xs = [.ref d] ∧ ∃ (kvs : List (Key × V)) (ks : List Int), H d = some (.dK kvs) ∧ kvs.map (·.1) = ks.map Sum.inl ∧ ks.length < 64 ∧
 ∀ (D : Addr) (H' : Hp) (ks' : List Int), H D = none → AH H H' → H' D = some (.lst (ks'.map V.int)) → ks'.Perm ks → ks'.Pairwise (· ≤ ·) → Q (.ref D) H'
theorem FJ : ∀ {us : List Value} {ks : List Int}, us.length = ks.length → (∀ (j : Nat) (u : Value), us[j]? = some u → ∃ k : Int, ks[j]? = some k ∧ ∃ t, u = Value.int k t) → IntsAre us ks
 | [], [], _, _ => .nil
 | [], _ :: _, h, _ => by simp at h
 | _ :: _, [], h, _ => by simp at h
 | u :: us, k :: ks, h, hj => by
  obtain ⟨k', e1, t, e2⟩ := hj 0 u rfl
  have e1 : k = k' := by simpa using e1
  subst e1 e2
  exact .cons k t (FJ (by simpa using h) fun j u hu => by simpa using hj (j + 1) u (by simpa using hu))
theorem Ew (hc : X.calm = true) : BJ X (.builtin "sorted") (Kr X.K) := by
 intro pins s σ H xs us Q I r h
 obtain ⟨d, rfl, kvs, ks, hd, hk, h64, q⟩ := h
 obtain ⟨u, rfl, ru⟩ := vals1 r
 cases ru
 obtain ⟨hz, lo, vs, kv, hD⟩ := I.hok d _ hd
 obtain ⟨ep, hat⟩ := hD.dictAt
 have lkv := Paired.length kv
 have lks : kvs.length = ks.length := by have := congrArg List.length hk; simpa using this
 refine Calls.call_function_entry kind_sorted plain_sorted entry_sorted (args_sorted1 _) ?_
 unfold Builtin.«sorted»
 refine wpAny_bind (m := checkCount "sorted" 1 1 _) (wpAny_pure ?_)
 refine wpAny_bind (PySem.W.kdu_collect (A := X.A.in1) (PySem.W.kdl_dict (knd := At X.prog X.w) (kvs := vs) (ep := ep) lo) (I.ok.hd hc) hat (by rw [← lkv]; exact hz) fun h' tk acc hkk hacc => ?_)
 have hint : IntsAre acc.toList ks := by
  refine FJ (by rw [Array.length_toList, hacc.1, ← lkv, lks]) fun j u hu => ?_
  obtain ⟨k, x, hx, hki⟩ := hacc.2 j u (by rw [← Array.getElem?_toList]; exact hu)
  have hj : j < kvs.length := by
   have := (List.getElem?_eq_some_iff.mp hx).1
   lia
  obtain ⟨p, hp, e1, e2⟩ := (show ∃ p, kvs[j]? = some p ∧ p.1 = k ∧ RelV p.2 x from by
   obtain ⟨p, h1, h2⟩ := TG.Paired.get kv hx
   exact ⟨p, h1, h2⟩)
  have hkj : (ks.map (Sum.inl : Int → Key))[j]? = some k := by rw [← hk, List.getElem?_map, hp]; exact congrArg some e1
  rw [List.getElem?_map] at hkj
  obtain ⟨i, hi, rfl⟩ := Option.map_eq_some_iff.mp hkj
  refine ⟨i, hi, ?_⟩
  have hki : HU (Sum.inl i) u = true := hki
  rcases Av hki with ⟨i', t, e3, e4⟩ | ⟨y, t, e3, e4⟩
  ·injection e3 with e3
   subst e3
   exact ⟨t, e4⟩
  ·cases e3
 have hal : acc.toList.length = ks.length := by rw [Array.length_toList, hacc.1, ← lkv, lks]
 refine wpAny_bind (wpAny_newList ?_ (by rw [hal, PySem.sizeLine_eq]; lia))
 have hoL : (h'.push (seqObj "list" acc.toList.toArray 0)).get? h'.objs.size = some (seqObj "list" acc.toList.toArray 0) := Heap.get?_push_size _ rfl
 show wpAny _ _ _ _ _ { s with heap := h'.push (seqObj "list" acc.toList.toArray 0), toks := tk }
 refine wpAny_bind (wpAny_holding (wpAny_call_entry slot_list_sort ⟨_, hoL, rfl⟩ entry_list_sort (list_sort_tree hoL hint (by lia) fun out ns' a1 a2 a3 => ⟨_, rfl, ?_⟩) (args_list_sort _)))
 obtain ⟨e, he⟩ := sortedHeap_at (vs := acc.toList) (out := out) hoL
 have I' : Inv X pins σ H { s with heap := h', toks := tk } := I.kept hkk
 refine wpAny_pure ⟨_, rfl, Nf (s := { s with heap := h', toks := tk }) (tk := tk) I' (Nat.le_refl _) (fun b o q' => ?_) (by rw [he]) a1 a2 h64 fun n1 n2 n3 => q _ _ _ n1 n2 n3 a2 a3⟩
 have q' : h'.get? b = some o := q'
 have hlt := Heap.lt_size q'
 refine (sortedHeap_old (Nat.ne_of_lt hlt) (by rw [size_push']; exact Nat.lt_succ_of_lt hlt)).trans ?_
 exact Heap.get?_push_of_some _ q'
end
theorem len0 {α : Type} {us : List α} (h : us.length = 0) : us = [] := List.length_eq_zero_iff.mp h
theorem Mi {α : Type} {us : List α} {n : Nat} (h : us.length = n + 1) : ∃ a r, us = a :: r ∧ r.length = n := by
 cases us with
 | nil => cases h
 | cons a r => exact ⟨a, r, rfl, Nat.succ.inj h⟩
theorem Mn {α : Type} {us : List α} (h : us.length = 1) : ∃ a, us = [a] := by
 obtain ⟨a, r, rfl, h'⟩ := Mi h; cases len0 h'; exact ⟨a, rfl⟩
theorem UK {α : Type} {us : List α} (h : us.length = 2) : ∃ a b, us = [a, b] := by
 obtain ⟨a, r, rfl, h'⟩ := Mi h; obtain ⟨b, rfl⟩ := Mn h'; exact ⟨a, b, rfl⟩
theorem NN {α : Type} {us : List α} (h : us.length = 3) : ∃ a b c, us = [a, b, c] := by
 obtain ⟨a, r, rfl, h'⟩ := Mi h; obtain ⟨b, c, rfl⟩ := UK h'; exact ⟨a, b, c, rfl⟩
theorem len4 {α : Type} {us : List α} (h : us.length = 4) : ∃ a b c d, us = [a, b, c, d] := by
 obtain ⟨a, r, rfl, h'⟩ := Mi h; obtain ⟨b, c, d, rfl⟩ := NN h'; exact ⟨a, b, c, d, rfl⟩
theorem len5 {α : Type} {us : List α} (h : us.length = 5) : ∃ a b c d e, us = [a, b, c, d, e] := by
 obtain ⟨a, r, rfl, h'⟩ := Mi h; obtain ⟨b, c, d, e, rfl⟩ := len4 h'; exact ⟨a, b, c, d, e, rfl⟩
theorem len6 {α : Type} {us : List α} (h : us.length = 6) : ∃ a b c d e f, us = [a, b, c, d, e, f] := by
 obtain ⟨a, r, rfl, h'⟩ := Mi h; obtain ⟨b, c, d, e, f, rfl⟩ := len5 h'; exact ⟨a, b, c, d, e, f, rfl⟩
end L2
namespace TG
open PySem L2
inductive Err where
 | nogate | taken | upside | bounds | full | deeds | nothing | badlist | few | size | badthrow | badrow
 deriving DecidableEq
noncomputable def Kp (b P : Addr) (H H' : Hp) : Prop := ∀ a u, a ≠ b → a ≠ P → H a = some u → H' a = some u
theorem Kp.of {b P : Addr} {H H' : Hp} (s : AH H H') : Kp b P H H' := fun a u _ _ e => s a u e
theorem Kp.trans {b P : Addr} {H H1 H2 : Hp} (k : Kp b P H H1) (k' : Kp b P H1 H2) : Kp b P H H2 := fun a u h1 h2 e => k' a u h1 h2 (k a u h1 h2 e)
theorem Kp.upd {b P a : Addr} {H H1 : Hp} {o : HO} (k : Kp b P H H1) (h : a = b ∨ a = P) : Kp b P H (L2.upd H1 a o) := fun c u h1 h2 e => by
 have hc : c ≠ a := by rcases h with rfl | rfl <;> assumption
 rw [AI hc]
 exact k c u h1 h2 e
noncomputable def N6 (H : Hp) (l : Addr) (gs : List G) : Prop := ∃ as : List Addr, H l = some (.lst (as.map V.ref)) ∧ Ax H as gs
structure Std (gs : List G) : Prop where
 asc : Asc gs
 ok : ∀ g ∈ gs, OkG g
 len : gs.length ≤ 40
theorem Mh {gs : List G} (h : Asc gs) : (gs.map G.p).Nodup := by
 unfold List.Nodup
 rw [List.pairwise_map]
 exact h.imp fun {a b} h z => by lia
theorem Std.nd {gs : List G} (h : Std gs) : (gs.map G.p).Nodup := Mh h.asc
structure Bch (C : Addr) (H : Hp) (b S P : Addr) (ow : List Addr) (gs : List G) (past : List (List G)) : Prop where
 at_ : ∃ dx, H b = some (.ins C dx [("standing", .ref S), ("past", .ref P)])
 st : N6 H S gs
 pa : ∃ ps : List Addr, H P = some (.lst (ps.map V.ref)) ∧ Paired (N6 H) ps past ∧ (∀ p ∈ ps, p ∈ ow ∧ p ≠ P)
 sp : S ≠ P
 so : S ∈ ow
 po : P ∈ ow
 std : Std gs
 stds : ∀ x ∈ past, Std x
 len : past.length ≤ 300
 lv : ∀ a ∈ ow, ∃ xs, H a = some (.lst xs)
theorem Ax.keep {H H' : Hp} {as : List Addr} {gs : List G} (h : Ax H as gs) (k : ∀ a xs, H a = some (.tup xs) → H' a = some (.tup xs)) : Ax H' as gs := by
 unfold Ax at *
 induction h with
 | nil => exact .nil
 | cons e _ ih => exact .cons (k _ _ e) ih
theorem N6.keep {H H' : Hp} {l : Addr} {gs : List G} (h : N6 H l gs) (kl : ∀ u, H l = some u → H' l = some u) (k : ∀ a xs, H a = some (.tup xs) → H' a = some (.tup xs)) : N6 H' l gs := by
 obtain ⟨as, e, g⟩ := h
 exact ⟨as, kl _ e, g.keep k⟩
theorem Paired.keepM {α β : Type} {F F' : α → β → Prop} : ∀ {xs : List α} {ys : List β}, Paired F xs ys → (∀ x y, x ∈ xs → F x y → F' x y) → Paired F' xs ys
 | _, _, .nil, _ => .nil
 | _, _, .cons e r, k => .cons (k _ _ List.mem_cons_self e) (Paired.keepM r fun x y h => k x y (List.mem_cons_of_mem _ h))
theorem Paired.takeP {α β : Type} {F : α → β → Prop} : ∀ {xs : List α} {ys : List β}, Paired F xs ys → ∀ n, Paired F (xs.take n) (ys.take n)
 | _, _, .nil, n => by simp only [List.take_nil]; exact .nil
 | _, _, .cons e r, 0 => .nil
 | _, _, .cons e r, n + 1 => .cons e (Paired.takeP r n)
theorem Bch.keep {C : Addr} {H H' : Hp} {b S P : Addr} {ow : List Addr} {gs : List G} {past : List (List G)} (h : Bch C H b S P ow gs past) (k : ∀ a u, (a = b ∨ a ∈ ow ∨ ∃ xs, u = .tup xs) → H a = some u → H' a = some u) : Bch C H' b S P ow gs past := by
 have kt : ∀ a xs, H a = some (.tup xs) → H' a = some (.tup xs) := fun a xs e => k a _ (.inr (.inr ⟨xs, rfl⟩)) e
 obtain ⟨dx, e⟩ := h.at_
 obtain ⟨ps, e2, pr, hm⟩ := h.pa
 exact ⟨⟨dx, k _ _ (.inl rfl) e⟩, h.st.keep (fun u e => k _ u (.inr (.inl h.so)) e) kt, ⟨ps, k _ _ (.inr (.inl h.po)) e2, Paired.keepM pr fun x y hx q => q.keep (fun u e => k _ u (.inr (.inl (hm x hx).1)) e) kt, hm⟩, h.sp, h.so, h.po, h.std, h.stds, h.len, fun a ha => (h.lv a ha).imp fun xs e => k a _ (.inr (.inl ha)) e⟩
theorem Bch.same {C : Addr} {H H' : Hp} {b S P : Addr} {ow : List Addr} {gs : List G} {past : List (List G)} (h : Bch C H b S P ow gs past) (s : AH H H') : Bch C H' b S P ow gs past := h.keep fun a u _ e => s a u e
noncomputable def Bd (gs : List G) (p : Int) (o : List G) : List G := (gs.filter fun g => decide (g.p < p)) ++ (o ++ (gs.filter fun g => decide (p < g.p)))
theorem Kk {gs : List G} {p : Int} {o : List G} (h : Asc gs) (ho : Asc o) (hp : ∀ g ∈ o, g.p = p) : Asc (Bd gs p o) := by
 unfold Bd Asc at *
 refine List.pairwise_append.mpr ⟨h.filter _, List.pairwise_append.mpr ⟨ho, h.filter _, fun a ha b hb => ?_⟩, fun a ha b hb => ?_⟩
 ·have := of_decide_eq_true (List.mem_filter.mp hb).2
  rw [hp a ha]; exact this
 ·have h1 := of_decide_eq_true (List.mem_filter.mp ha).2
  rcases List.mem_append.mp hb with z | z
  ·rw [hp b z]; exact h1
  ·have := of_decide_eq_true (List.mem_filter.mp z).2
   lia
theorem FA {gs : List G} {p : Int} {o : List G} {g : G} : g ∈ Bd gs p o ↔ (g ∈ gs ∧ g.p ≠ p) ∨ g ∈ o := by
 unfold Bd
 simp only [List.mem_append, List.mem_filter, decide_eq_true_eq]
 constructor
 ·rintro (⟨h, q⟩ | h | ⟨h, q⟩)
  ·exact .inl ⟨h, by lia⟩
  ·exact .inr h
  ·exact .inl ⟨h, by lia⟩
 ·rintro (⟨h, q⟩ | h)
  ·rcases Int.lt_or_gt_of_ne q with z | z
   ·exact .inl ⟨h, z⟩
   ·exact .inr (.inr ⟨h, z⟩)
  ·exact .inr (.inl h)
theorem EB {gs : List G} {p : Int} {o : List G} : (Bd gs p o).Perm ((gs.filter fun g => !decide (g.p = p)) ++ o) := by
 unfold Bd
 have h : ((gs.filter fun g => decide (g.p < p)) ++ (gs.filter fun g => decide (p < g.p))).Perm (gs.filter fun g => !decide (g.p = p)) := by
  induction gs with
  | nil => exact List.Perm.refl _
  | cons a gs ih =>
   simp only [List.filter_cons]
   rcases Int.lt_trichotomy a.p p with z | z | z
   ·simp only [decide_eq_true z, show decide (p < a.p) = false from decide_eq_false (by lia), show decide (a.p = p) = false from decide_eq_false (by lia), if_true, Bool.not_false, Bool.false_eq_true, if_false, List.cons_append]
    exact ih.cons _
   ·simp only [show decide (a.p < p) = false from decide_eq_false (by lia), show decide (p < a.p) = false from decide_eq_false (by lia), decide_eq_true z, Bool.not_true, Bool.false_eq_true, if_false]
    exact ih
   ·simp only [show decide (a.p < p) = false from decide_eq_false (by lia), decide_eq_true z, show decide (a.p = p) = false from decide_eq_false (by lia), if_true, Bool.not_false, Bool.false_eq_true, if_false]
    exact List.perm_middle.trans (ih.cons _)
 exact (List.perm_append_comm_assoc _ _ _).trans ((h.append_left o).trans List.perm_append_comm)
theorem Gh {gs : List G} {p : Int} {o : List G} : (Bd gs p o).length = (gs.filter fun g => !decide (g.p = p)).length + o.length := by
 rw [EB.length_eq, List.length_append]
noncomputable abbrev Ab (gs : List G) : List Int := gs.map G.p
noncomputable def AW (gs : List G) (p : Int) : Option G := gs.find? fun g => decide (g.p = p)
theorem Aw {gs : List G} {p : Int} {g : G} (h : AW gs p = some g) : g ∈ gs ∧ g.p = p := by
 have h1 := List.mem_of_find?_eq_some h
 have h2 := List.find?_some h
 exact ⟨h1, of_decide_eq_true h2⟩
theorem Bs {gs : List G} {p : Int} : AW gs p = none ↔ p ∉ Ab gs := by
 unfold AW Ab
 rw [List.find?_eq_none]
 constructor
 ·intro h z
  obtain ⟨g, hg, e⟩ := List.mem_map.mp z
  exact h g hg (decide_eq_true e)
 ·intro h g hg z
  exact h (List.mem_map.mpr ⟨g, hg, of_decide_eq_true z⟩)
theorem IU {gs : List G} (ha : Asc gs) {g : G} (hg : g ∈ gs) : AW gs g.p = some g := by
 cases h : AW gs g.p with
 | none => exact absurd (List.mem_map.mpr ⟨g, hg, rfl⟩) (Bs.mp h)
 | some x =>
  obtain ⟨h1, h2⟩ := Aw h
  rw [N1 ha h1 hg h2]
noncomputable abbrev InB (x : Int) : Prop := -1000 ≤ x ∧ x ≤ 1000
noncomputable def DA (p f h : Int) : Option Err := if h < f then some .upside else if InB p ∧ InB f ∧ InB h then none else some .bounds
theorem Bk {p f h : Int} : DA p f h = none ↔ OkG ⟨p, f, h⟩ := by
 unfold DA
 constructor
 ·intro z
  split at z
  ·cases z
  ·split at z
   ·rename_i h1 h2
    obtain ⟨⟨a, b⟩, ⟨c, d⟩, e, f1⟩ := h2
    exact ⟨a, b, c, by show f ≤ h; lia, f1⟩
   ·cases z
 ·rintro ⟨a, b, c, d, e⟩
  rw [if_neg (by simp only at *; lia), if_pos (by simp only at *; unfold InB; lia)]
noncomputable def FS (gs : List G) (past : List (List G)) (p f h : Int) : Option Err :=
 if p ∈ Ab gs then some .taken else (DA p f h).or (if 40 ≤ gs.length then some .full else if 300 ≤ past.length then some .deeds else none)
noncomputable def Bz (past : List (List G)) : Option Err := if 300 ≤ past.length then some .deeds else none
noncomputable def C2 (gs : List G) (past : List (List G)) (p : Int) : Option Err := if p ∈ Ab gs then Bz past else some .nogate
noncomputable def Ba (gs : List G) (past : List (List G)) (p x y : Int) : Option Err := match AW gs p with
 | none => some .nogate
 | some g => (DA p (g.f + x) (g.h + y)).or (Bz past)
noncomputable def Db (past : List (List G)) (n : Int) : Option Err := if n < 1 then some .bounds else if past.length < n then some .nothing else none
theorem Std.put {gs : List G} {p f h : Int} (s : Std gs) (ok : OkG ⟨p, f, h⟩) (hl : (gs.filter fun g => !decide (g.p = p)).length < 40) : Std (Bd gs p [⟨p, f, h⟩]) where
 asc := Kk s.asc (List.pairwise_singleton ..) fun g hg => by rw [List.mem_singleton.mp hg]
 ok := fun g hg => by
  rcases FA.mp hg with z | z
  ·exact s.ok g z.1
  ·rw [List.mem_singleton.mp z]; exact ok
 len := by rw [Gh]; simp only [List.length_singleton]; lia
theorem Std.take {gs : List G} {p : Int} (s : Std gs) : Std (Bd gs p []) where
 asc := Kk s.asc List.Pairwise.nil fun g hg => absurd hg (by simp)
 ok := fun g hg => by
  rcases FA.mp hg with z | z
  ·exact s.ok g z.1
  ·exact absurd z (by simp)
 len := by
  rw [Gh]
  have := List.length_filter_le (fun g : G => !decide (g.p = p)) gs
  have := s.len
  simp only [List.length_nil]; lia
theorem NA {gs : List G} {g : G} (hg : g ∈ gs) : (gs.filter fun x => !decide (x.p = g.p)).length < gs.length :=
 List.length_filter_lt_length_iff_exists.mpr ⟨g, hg, by simp⟩
theorem KS {gs : List G} {p : Int} (hp : p ∉ Ab gs) : (gs.filter fun x => !decide (x.p = p)) = gs :=
 List.filter_eq_self.mpr fun g hg => by
  rw [decide_eq_false (fun z => hp (List.mem_map.mpr ⟨g, hg, z⟩))]; rfl
theorem Bch.off {C : Addr} {H : Hp} {b S P : Addr} {ow : List Addr} {gs : List G} {past : List (List G)} (h : Bch C H b S P ow gs past) {a : Addr} (n : H a = none) : a ∉ ow := fun z => by
 obtain ⟨_, e⟩ := h.lv a z
 rw [n] at e; cases e
theorem Bch.nep {C : Addr} {H : Hp} {b S P : Addr} {ow : List Addr} {gs : List G} {past : List (List G)} (h : Bch C H b S P ow gs past) {a : Addr} {u : HO} (e : H a = some u) (hu : ∀ xs, u ≠ .lst xs) : a ≠ P := fun z => by
 obtain ⟨_, e', _⟩ := h.pa
 rw [z, e'] at e; exact hu _ (Option.some.inj e).symm
theorem Bch.neb {C : Addr} {H : Hp} {b S P : Addr} {ow : List Addr} {gs : List G} {past : List (List G)} (h : Bch C H b S P ow gs past) {a : Addr} {u : HO} (e : H a = some u) (hu : ∀ C dx fs, u ≠ .ins C dx fs) : a ≠ b := fun z => by
 obtain ⟨_, e'⟩ := h.at_
 rw [z, e'] at e; exact hu _ _ _ (Option.some.inj e).symm
theorem Bch.tup {C : Addr} {H H' : Hp} {b S P : Addr} {ow : List Addr} {gs : List G} {past : List (List G)} (h : Bch C H b S P ow gs past) (k : Kp b P H H') {a : Addr} {xs : List V} (e : H a = some (.tup xs)) : H' a = some (.tup xs) :=
 k a _ (h.neb e fun _ _ _ z => by cases z) (h.nep e fun _ z => by cases z) e
theorem Lf {p : Int} : ∀ l : List Int, inV (.int p) (l.map V.int) = decide (p ∈ l)
 | [] => rfl
 | a :: l => by
  show (eqV (.int a) (.int p) || inV (.int p) (l.map V.int)) = _
  rw [Lf l]
  have e : eqV (.int a) (.int p) = decide (p = a) := by
   show decide (a = p) = decide (p = a)
   exact decide_eq_decide.mpr eq_comm
  rw [e, ← Bool.decide_or]
  exact decide_eq_decide.mpr List.mem_cons.symm
theorem Mx (l : List Int) : (l.map V.int).all E9 = true := by
 rw [List.all_eq_true]
 intro x hx
 obtain ⟨i, _, rfl⟩ := List.mem_map.mp hx
 rfl
theorem OB {gs : List G} : (gs.filter fun _ => true) = gs := List.filter_eq_self.mpr fun _ _ => rfl
end TG
namespace L2
open PySem PySem.Spec PyProof.Rows
section
variable {prog : Program} {w : World} {A : Around} {E : Value → Shared → Prop} {s : Shared}
end
section
variable {X : Cx} {pos : Pos}
noncomputable def JG (K : PySem.W.Frag) (n : Nat) (t : TGs) : TG := fun v σ H Q => ∃ a xs, v = .ref a ∧ SqL K H a xs ∧ xs.length = n ∧ t xs σ H Q
noncomputable def Lb : V → List V → Hp → VK → Prop := fun x vs H Q => ∃ a kvs, x = .ref a ∧ vs = [] ∧ H a = some (.dK kvs) ∧ Q .non (upd H a (.dK []))
theorem MP : MtR X "dict.clear" Lb := by
 intro pins s σ H x vs v us Q I rx rv h
 obtain ⟨a, kvs, rfl, rfl, e, q⟩ := h
 cases rx
 cases rv
 obtain ⟨z, hd, ws, rel, dd⟩ := IQ I.hok e
 refine call_meetsIn PySem.F.slot_dict_clear dd.typeIs PySem.F.entry_dict_clear (PySem.F.args_dict_clear_1 _) (meets_dict_clear (At X.prog X.w) a) ⟨ws, dd, by rw [← Paired.length rel]; exact z, fun h' dd' hs => ?_⟩
 have he : ∃ q, h'.get? a = some q := let ⟨q, _, _, hq, _⟩ := dd'; ⟨q, hq⟩
 exact ⟨.non, _, FU I (by rw [e]; exact True.intro) hs he (JR (Nat.zero_le _) hd .nil dd'), rfl, q⟩
noncomputable def PJ : V → List V → Hp → VK → Prop := fun x vs H Q => ∃ a b more, x = .ref a ∧ vs = [.ref b] ∧ a ≠ b ∧ H a = some (.dK []) ∧ H b = some (.dK more) ∧ Q .non (upd H a (.dK more))
theorem Oq : MtR X "dict.update" PJ := by
 intro pins s σ H x vs v us Q I rx rv h
 obtain ⟨a, b, more, rfl, rfl, hab, e, e2, q⟩ := h
 cases rx
 obtain ⟨u, rfl, ru⟩ := vals1 rv
 cases ru
 obtain ⟨z, hd, ws, rel, dd⟩ := IQ I.hok e
 obtain ⟨z2, hd2, ws2, rel2, dd2⟩ := IQ I.hok e2
 cases rel
 have hn : (ws2.map (·.1)).Nodup := let ⟨_, _, _, _, _, _, _, _, hn⟩ := dd2; hn
 refine call_meetsIn PySem.F.slot_dict_update dd.typeIs PySem.F.entry_dict_update (PySem.F.args_dict_update_2 _ _) (meets_dict_update (At X.prog X.w) a b hab hd2) ⟨[], ws2, dd, dd2, by rw [← Paired.length rel2, List.length_nil, Nat.zero_add]; exact z2, fun h' dd' _ hs => ?_⟩
 rw [merged_nil_of_nodup ws2 hn] at dd'
 have he : ∃ q, h'.get? a = some q := let ⟨q, _, _, hq, _⟩ := dd'; ⟨q, hq⟩
 exact ⟨.non, _, FU I (by rw [e]; exact True.intro) hs he (JR z2 hd rel2 dd'), rfl, q⟩
noncomputable def Cp : List V → Hp → VK → Prop := fun vs H Q => ∃ b more, vs = [.ref b] ∧ H b = some (.dK more) ∧ ∀ p H', H p = none → AH H H' → H' p = some (.dK more) → Q (.ref p) H'
theorem Ks : BJ X (.type "dict") Cp := by
 intro pins s σ H xs us Q I r h
 obtain ⟨b, more, rfl, e2, q⟩ := h
 obtain ⟨u, rfl, rx⟩ := vals1 r
 cases rx
 obtain ⟨z2, hd2, ws2, rel2, dd2⟩ := IQ I.hok e2
 refine kt_call_dict hd2 dd2 (by rw [← Paired.length rel2]; exact z2) fun h' dd' hs => ?_
 have nf : H s.heap.objs.size = none := I.hok.fresh (Nat.le_refl _)
 have hsys : (s.heap.objs.size == sysModules) = false := beq_false_of_ne (Nat.ne_of_gt I.big)
 refine ⟨.ref s.heap.objs.size, upd H s.heap.objs.size (.dK more), I.laid (t' := s.toks) (fun c o e => (hs.2 c (Nat.ne_of_lt (Heap.lt_size e))).trans (Heap.get?_push_of_some _ e)) (Nat.le_refl _) ?_, rfl, q _ _ nf (Ac nf) AG⟩
 exact ⟨z2, hsys, ws2, rel2, dd'⟩
end
theorem Of : bootBuiltins "dict" = some (.type "dict") := by decide +kernel
structure SQ (K : PySem.W.Frag) (x qual : Str) (st : Stmt) (f : Addr) (fd : FuncData) : Prop where
 ex : ∃ (dV oc : Value) (od : Option Addr) (kV doc pm : Value) (an : Option Addr) (cdv ct : Value) (osl : Array (Option Value)),
  fd = PySem.W.fnOf x qual (BF st) (A1 st) (AF st) dV kV doc pm an cdv ct ∧ K.lookup f = some ⟨oc, od, .func fd, osl⟩ ∧ PySem.W.codeIn K cdv qual = true
 kp : PySem.W.keepIn K (.ref f) = true
theorem SQ.okX {P : Program} {w : World} {K : PySem.W.Frag} {mg : Str → Option Value} {base : Heap} {x qual : Str} {st : Stmt} {f : Addr} {fd : FuncData} {N ps : List Str} {k : Nat} {sp : Sp} (F : SQ K x qual st f fd) (S : AN N ps (AF st)) (len : ∀ vs H Q E, sp vs H Q E → vs.length = ps.length)
  (hbody : ∀ (cdv : Value) (A : Around) (outer : List Env) (s : Shared) (H : Hp) (vs : List V) (Q : VK) (E : XK), BY k (A.deeper (envOfC qual (AF st) s.heap.objs.size f cdv)) → sp vs H Q E →
   ∃ t, PSs (Au (CXE P w) P w K mg base N qual (AF st) f cdv A outer s H E) (A1 st) t ∧ t { nx := fun _ H' => Q .non H', rt := Q } (start N vs) H) : Ag P w K mg base (CXE P w) (k + 1) f fd ps sp := by
 obtain ⟨dV, oc, od, kV, doc, pm, an, cdv, ct, osl, rfl, lk, hcd⟩ := F.ex
 exact Nh lk hcd S len fun A outer s H vs Q E hr hsp => hbody cdv A outer s H vs Q E hr hsp
structure DMD (K : PySem.W.Frag) (C : Addr) (x qual : Str) (st : Stmt) (ps : List Str) (f : Addr) (fd : FuncData) (dvs : List V) : Prop where
 F : SQ K x qual st f fd
 mt : Nb K C x f
 b : Binds K fd ps []
 bd : ∃ ds, AX dvs ds ∧ Binds K fd ps ds
end L2
namespace TG
open PySem L2
structure Ay (H : Hp) (D : Addr) (gs : List G) : Prop where
 at_ : ∃ (kvs : List (Key × V)) (ks : List Int), H D = some (.dK kvs) ∧ kvs.map (·.1) = ks.map Sum.inl ∧ ks.Perm (Ab gs) ∧ ∀ g ∈ gs, ∃ a, BW kvs (.inl g.p) = some (.ref a) ∧ H a = some (.tup [.int g.f, .int g.h])
theorem Ay.keep {H H' : Hp} {D : Addr} {gs : List G} (h : Ay H D gs) (kd : ∀ kvs, H D = some (.dK kvs) → H' D = some (.dK kvs)) (kt : ∀ a xs, H a = some (.tup xs) → H' a = some (.tup xs)) : Ay H' D gs := by
 obtain ⟨kvs, ks, e, e2, p, q⟩ := h.at_
 exact ⟨kvs, ks, kd _ e, e2, p, fun g hg => (q g hg).imp fun a z => ⟨z.1, kt _ _ z.2⟩⟩
theorem Ay.same {H H' : Hp} {D : Addr} {gs : List G} (h : Ay H D gs) (s : AH H H') : Ay H' D gs := h.keep (fun _ e => s _ _ e) fun _ _ e => s _ _ e
theorem Ay.none {H : Hp} {D : Addr} {kvs : List (Key × V)} {ks : List Int} {gs : List G} (e2 : kvs.map (·.1) = ks.map Sum.inl) (p : ks.Perm (Ab gs)) {x : Int} (hx : x ∉ Ab gs) : BW kvs (.inl x : Key) = Option.none := by
 cases h : BW kvs (.inl x : Key) with
 | none => rfl
 | some v =>
  have := OI h
  rw [e2] at this
  obtain ⟨y, hy, z⟩ := List.mem_map.mp this
  cases z
  exact absurd (p.mem_iff.mp hy) hx
theorem Ay.get {H : Hp} {D : Addr} {gs : List G} (h : Ay H D gs) (x : Int) : ∃ o, Dn H D (.int x) o ∧ (AW gs x = Option.none → o = Option.none) ∧ ∀ g, AW gs x = some g → ∃ a, o = some (.ref a) ∧ H a = some (.tup [.int g.f, .int g.h]) := by
 obtain ⟨kvs, ks, e, e2, p, q⟩ := h.at_
 refine ⟨_, Dn.k (k := .inl x) e, fun n => Ay.none (H := H) (D := D) e2 p (Bs.mp n), fun g hg => ?_⟩
 obtain ⟨h1, h2⟩ := Aw hg
 obtain ⟨a, z1, z2⟩ := q g h1
 rw [h2] at z1
 exact ⟨a, z1, z2⟩
theorem Ay.isD {H : Hp} {D : Addr} {gs : List G} (h : Ay H D gs) : IsD H D := by
 obtain ⟨kvs, ks, e, _⟩ := h.at_
 exact .inl ⟨kvs, .inl e⟩
theorem Ay.len {H : Hp} {D : Addr} {gs : List G} (h : Ay H D gs) : ∃ kvs, H D = some (.dK kvs) ∧ kvs.length = gs.length := by
 obtain ⟨kvs, ks, e, e2, p, _⟩ := h.at_
 refine ⟨kvs, e, ?_⟩
 have h1 := congrArg List.length e2
 have h2 := p.length_eq
 simp at h1 h2
 lia
theorem Cv {gs : List G} {x : Int} {o : List G} : (Ab (Bd gs x o)).Perm ((Ab gs).filter (fun y => decide (y ≠ x)) ++ Ab o) := by
 have h := (EB (gs := gs) (p := x) (o := o)).map G.p
 rw [List.map_append] at h
 refine h.trans (List.Perm.append_right _ (List.Perm.of_eq ?_))
 unfold Ab
 clear h
 induction gs with
 | nil => rfl
 | cons g gs ih =>
  by_cases e : g.p = x
  ·rw [List.filter_cons_of_neg (by simp [e]), List.map_cons, List.filter_cons_of_neg (by simp [e]), ih]
  ·rw [List.filter_cons_of_pos (by simp [e]), List.map_cons, List.map_cons, List.filter_cons_of_pos (by simp [e]), ih]
theorem Iw {kvs : List (Key × V)} {k : Key} {v : V} : (Dc kvs k v).map (·.1) = if (BW kvs k).isSome = true then kvs.map (·.1) else kvs.map (·.1) ++ [k] := by
 unfold Dc
 rw [C3]
 split
 ·rw [List.map_map]
  refine List.map_congr_left fun p _ => ?_
  show (if p.1 = k then (p.1, v) else p).1 = p.1
  split <;> rfl
 ·rw [List.map_append]; rfl
theorem Ay.put {H H' : Hp} {D a : Addr} {gs : List G} {x f h : Int} (s : Std gs) (d : Ay H D gs) (ea : H a = some (.tup [.int f, .int h])) (hp : Nl H D (.int x) (.ref a) H') : Ay H' D (Bd gs x [⟨x, f, h⟩]) := by
 obtain ⟨kvs, ks, e, e2, p, q⟩ := d.at_
 rcases hp with ⟨kvs', k, e', ek, _, rfl⟩ | ⟨_, _, _, e', _⟩
 ·rw [e] at e'
  cases e'
  have hk : k = .inl x := by
   cases k with
   | inl i => cases ek; rfl
   | inr y => cases ek
  subst hk
  have kt : ∀ c xs, H c = some (.tup xs) → upd H D (.dK (Dc kvs (.inl x) (.ref a))) c = some (.tup xs) := fun c xs z => (AI (A4 z e (fun z => by cases z))).trans z
  have hmem : ∀ g, g ∈ Bd gs x [⟨x, f, h⟩] → ∃ c, BW (Dc kvs (.inl x) (.ref a)) (.inl g.p) = some (.ref c) ∧ upd H D (.dK (Dc kvs (.inl x) (.ref a))) c = some (.tup [.int g.f, .int g.h]) := fun g hg => by
   rcases FA.mp hg with ⟨h1, h2⟩ | h1
   ·obtain ⟨c, z1, z2⟩ := q g h1
    refine ⟨c, ?_, kt _ _ z2⟩
    rw [Kc, if_neg (fun z => h2 (Sum.inl.inj z))]
    exact z1
   ·rw [List.mem_singleton.mp h1]
    exact ⟨a, by rw [Kc, if_pos rfl], kt _ _ ea⟩
  have nd : (Ab gs).Nodup := s.nd
  by_cases hx : x ∈ Ab gs
  ·obtain ⟨g, hg, eg⟩ := List.mem_map.mp hx
   obtain ⟨c, z1, _⟩ := q g hg
   rw [eg] at z1
   refine ⟨_, ks, AG, by rw [Iw, z1]; exact e2, ?_, hmem⟩
   refine p.trans (List.Perm.trans ?_ Cv.symm)
   have := (List.perm_cons_erase hx).trans (List.perm_append_singleton x _).symm
   rw [nd.erase_eq_filter] at this
   refine this.trans (List.Perm.of_eq ?_)
   show _ = _ ++ [x]
   congr 1
   exact List.filter_congr fun y _ => by
    by_cases h : y = x
    ·simp [h]
    ·simp [h, bne]
  ·refine ⟨_, ks ++ [x], AG, by rw [Iw, Ay.none (H := H) (D := D) e2 p hx, if_neg (by simp), e2, List.map_append]; rfl, ?_, hmem⟩
   refine List.Perm.trans (p.append_right [x]) (List.Perm.trans (List.Perm.of_eq ?_) Cv.symm)
   show _ = _ ++ [x]
   congr 1
   refine (List.filter_eq_self.mpr fun y hy => ?_).symm
   have hy' : y ≠ x := fun z => hx (by rw [← z]; exact hy)
   simp [hy']
 ·rw [e] at e'
  cases e'
theorem Ay.pop {H : Hp} {D : Addr} {gs : List G} {g : G} (d : Ay H D gs) (hg : g ∈ gs) : ∃ kvs a, H D = some (.dK kvs) ∧ BW kvs (.inl g.p) = some (.ref a) ∧ Ay (upd H D (.dK (B3 kvs (.inl g.p)))) D (Bd gs g.p []) := by
 obtain ⟨kvs, ks, e, e2, p, q⟩ := d.at_
 obtain ⟨a, z1, z2⟩ := q g hg
 have kt : ∀ c xs, H c = some (.tup xs) → upd H D (.dK (B3 kvs (.inl g.p))) c = some (.tup xs) := fun c xs z => (AI (A4 z e (fun z => by cases z))).trans z
 refine ⟨kvs, a, e, z1, ⟨_, ks.filter (fun y => decide (y ≠ g.p)), AG, ?_, ?_, fun x hx => ?_⟩⟩
 ·have : ∀ (kvs : List (Key × V)) (ks : List Int), kvs.map (·.1) = ks.map Sum.inl → (B3 kvs (.inl g.p)).map (·.1) = (ks.filter fun y => decide (y ≠ g.p)).map Sum.inl := fun kvs => by
   induction kvs with
   | nil => intro ks h; cases ks with
    | nil => rfl
    | cons _ _ => cases h
   | cons kv kvs ih => intro ks h; cases ks with
    | nil => cases h
    | cons k ks =>
     simp only [List.map_cons, List.cons.injEq] at h
     have ih := ih ks h.2
     unfold B3 at *
     by_cases ek : k = g.p
     ·rw [List.filter_cons_of_neg (by rw [h.1, ek]; simp), List.filter_cons_of_neg (by simp [ek])]
      exact ih
     ·rw [List.filter_cons_of_pos (by rw [h.1]; simp [ek]), List.filter_cons_of_pos (by simp [ek]), List.map_cons, List.map_cons, ih, h.1]
  exact this kvs ks e2
 ·have := (p.filter (fun y => decide (y ≠ g.p))).trans (List.Perm.of_eq (List.append_nil _).symm)
  exact this.trans (Cv (gs := gs) (x := g.p) (o := [])).symm
 ·rcases FA.mp hx with ⟨h1, h2⟩ | h1
  ·obtain ⟨c, y1, y2⟩ := q x h1
   refine ⟨c, ?_, kt _ _ y2⟩
   rw [← y1]
   have : ∀ kvs : List (Key × V), BW (B3 kvs (.inl g.p)) (.inl x.p) = BW kvs (.inl x.p) := fun kvs => by
    induction kvs with
    | nil => rfl
    | cons kv kvs ih =>
     by_cases ek : kv.1 = .inl g.p
     ·rw [MC ek, ih, A0 (fun z => h2 (Sum.inl.inj (z.symm.trans ek)))]
     ·rw [MH ek]
      by_cases ex : kv.1 = .inl x.p
      ·rw [A7 ex, A7 ex]
      ·rw [A0 ex, A0 ex, ih]
   exact this kvs
  ·cases h1
theorem Ay.nil {H : Hp} {D : Addr} (e : H D = some (.dK [])) : Ay H D [] := ⟨[], [], e, rfl, List.Perm.refl _, fun _ h => absurd h (by simp)⟩
theorem HS : ∀ {xs ys : List Int}, xs.Pairwise (· ≤ ·) → ys.Pairwise (· < ·) → xs.Perm ys → xs = ys
 | [], ys, _, _, h => (List.nil_perm.mp h).symm
 | x :: xs, [], _, _, h => absurd h (by intro z; have := z.length_eq; simp at this)
 | x :: xs, y :: ys, h1, h2, h => by
  obtain ⟨a1, a2⟩ := List.pairwise_cons.mp h1
  obtain ⟨b1, b2⟩ := List.pairwise_cons.mp h2
  have e : x = y := by
   have hx : x ∈ y :: ys := h.mem_iff.mp List.mem_cons_self
   have hy : y ∈ x :: xs := h.mem_iff.mpr List.mem_cons_self
   rcases List.mem_cons.mp hx with e | hx
   ·exact e
   ·rcases List.mem_cons.mp hy with e | hy
    ·exact e.symm
    ·have := a1 y hy
     have := b1 x hx
     lia
  subst e
  rw [HS a2 b2 ((List.perm_cons x).mp h)]
theorem Hl {gs : List G} (h : Asc gs) : (Ab gs).Pairwise (· < ·) := List.pairwise_map.mpr h
theorem Ku {K : PySem.W.Frag} {a : Addr} {gs : List G} {te : TE} {caps : St} {D : Addr} {H1 : Hp} {Q : Hp → Prop} (hl : SqL K H1 a ((Ab gs).map V.int)) (hD : H1 D = none) (hz : gs.length ≤ 1000)
  (he : ∀ g H (R : VK), g ∈ gs → AH H1 H → (∀ p H', H p = none → AH H H' → H' p = some (.tup (G.vs g)) → R (.ref p) H') → te (some (.int g.p) :: caps) H R)
  (hd : ∀ H as, AH H1 H → H D = some (.lst (as.map V.ref)) → Ax H as gs → Q H) : CW te CU caps (Itl K a) D H1 Q := by
 have hlen : ((Ab gs).map V.int).length = gs.length := by rw [List.length_map, List.length_map]
 refine CG (xs := (Ab gs).map V.int) (fun i ys H => ∃ as : List Addr, ys = as.map V.ref ∧ AH H1 H ∧ H D = some (.lst ys) ∧ Ax H as (gs.take i)) ⟨[], rfl, Ac hD, AG, .nil⟩ (fun _ _ H _ ⟨_, _, s1, _⟩ => s1.seq hl) ?_ ?_
 ·rintro i x ys H hx ⟨as, rfl, s1, e1, g1⟩
  have hi : i < gs.length := by
   have := (List.getElem?_eq_some_iff.mp hx).1
   lia
  have ex : x = V.int gs[i].p := by
   rw [List.getElem?_map, List.getElem?_map, List.getElem?_eq_getElem hi] at hx
   exact (Option.some.inj hx).symm
  subst ex
  have et : gs.take (i + 1) = gs.take i ++ [gs[i]] := List.take_succ_eq_append_getElem hi
  have lg := g1.len
  rw [List.length_take] at lg
  unfold CU
  dsimp only
  rw [if_pos rfl]
  refine he gs[i] H _ (List.getElem_mem hi) s1 fun p H2 n2 s2 e2 => ?_
  have nD2 : p ≠ D := fun z => by rw [z, e1] at n2; cases n2
  refine ⟨s2.get e1, by rw [List.length_map, PySem.sizeLine_eq]; lia, _, by lia, rfl, by lia, as ++ [p], by rw [List.map_append]; rfl, (s1.trans s2).updFresh hD, AG, ?_⟩
  rw [et]
  exact (Ax.snoc (g1.same s2) e2).fresh (fun ys z => by rw [s2.get e1] at z; cases z)
 ·rintro ys H ⟨as, rfl, s1, e1, g1⟩
  rw [hlen, List.take_length] at g1
  exact hd H as s1 e1 g1
structure Kept (ow : List Addr) (H H' : Hp) (ow' : List Addr) : Prop where
 tup : ∀ c xs, H c = some (.tup xs) → H' c = some (.tup xs)
 lst : ∀ c xs, c ∉ ow → H c = some (.lst xs) → H' c = some (.lst xs)
 frz : ∀ c o u, H c = some (.frz o u) → H' c = some (.frz o u)
 off : ∀ c ∈ ow', c ∈ ow ∨ H c = none
 live : ∀ c u, H c = some u → ∃ u', H' c = some u'
 tbl : ∀ c ps, H c = some (.tbl ps) → H' c = some (.tbl ps)
noncomputable def Scr (K : PySem.W.Frag) (ow : List Addr) (H : Hp) (a : Addr) (xs : List V) : Prop := (H a = some (.lst xs) ∧ a ∉ ow) ∨ (∃ o, H a = some (.frz o (.lst xs))) ∨ ∀ H', SqL K H' a xs
theorem Scr.sq {K : PySem.W.Frag} {ow : List Addr} {H : Hp} {a : Addr} {xs : List V} (h : Scr K ow H a xs) : SqL K H a xs := by
 rcases h with ⟨h, _⟩ | ⟨o, h⟩ | h
 ·exact .inl (.inl h)
 ·exact .inl (.inr ⟨o, h⟩)
 ·exact h H
theorem Scr.of {K : PySem.W.Frag} {ow : List Addr} {H H' : Hp} {a : Addr} {xs : List V} (h : SqL K H a xs) (ho : ∀ c ∈ ow, H c = none) (s : AH H H') : Scr K ow H' a xs := by
 rcases h with (h | ⟨o, h⟩) | h
 ·exact .inl ⟨s.get h, fun z => by rw [ho a z] at h; cases h⟩
 ·exact .inr (.inl ⟨o, s.get h⟩)
 ·exact .inr (.inr fun _ => .inr h)
theorem Ay.dput {H : Hp} {D a : Addr} {gs : List G} {x f h : Int} (s : Std gs) (d : Ay H D gs) (ea : H a = some (.tup [.int f, .int h])) :
  ∃ kvs kvs', H D = some (.dK kvs) ∧ Nl H D (.int x) (.ref a) (upd H D (.dK kvs')) ∧ Ay (upd H D (.dK kvs')) D (Bd gs x [⟨x, f, h⟩]) := by
 obtain ⟨kvs, e, hl⟩ := d.len
 have hp : Nl H D (.int x) (.ref a) (upd H D (.dK (Dc kvs (.inl x) (.ref a)))) := .inl ⟨kvs, .inl x, e, rfl, by rw [PySem.sizeLine_eq]; have := s.len; lia, rfl⟩
 exact ⟨kvs, _, e, hp, Ay.put s d ea hp⟩
end TG
namespace L2
open PySem PySem.Spec PyProof.Rows
theorem vals3 {x y z : V} {us : List Value} (r : AX [x, y, z] us) : ∃ u v w', us = [u, v, w'] ∧ RelV x u ∧ RelV y v ∧ RelV z w' := by
 cases r with
 | cons r1 r2 =>
  cases r2 with
  | cons r3 r4 =>
   cases r4 with
   | cons r5 r6 => cases r6; exact ⟨_, _, _, rfl, r1, r3, r5⟩
section
variable {X : Cx}
noncomputable def EK : List V → Hp → VK → Prop := fun xs H Q => ∃ i j k, xs = [.int i, .int j, .int k] ∧ ∀ m, (∀ b, m ≤ b ↔ i ≤ b ∧ j ≤ b ∧ k ≤ b) → Q (.int m) H
theorem MJ (hc : X.calm = true) : BJ X (.builtin "max") EK := by
 intro pins s σ H xs us Q I r h
 obtain ⟨i, j, k, rfl, q⟩ := h
 obtain ⟨u, v, w', rfl, ⟨t, rfl⟩, ⟨t', rfl⟩, ⟨t'', rfl⟩⟩ := vals3 r
 refine max_three_ints (I.ok.hd hc) fun h' tk kp => ?_
 by_cases h1 : j > i
 ·rw [if_pos h1]
  by_cases h2 : k > j
  ·rw [if_pos h2]; exact ⟨.int k, H, I.kept kp, ⟨_, rfl⟩, q k fun b => by lia⟩
  ·rw [if_neg h2]; exact ⟨.int j, H, I.kept kp, ⟨_, rfl⟩, q j fun b => by lia⟩
 ·rw [if_neg h1]
  by_cases h2 : k > i
  ·rw [if_pos h2]; exact ⟨.int k, H, I.kept kp, ⟨_, rfl⟩, q k fun b => by lia⟩
  ·rw [if_neg h2]; exact ⟨.int i, H, I.kept kp, ⟨_, rfl⟩, q i fun b => by lia⟩
end
end L2
namespace TG
open PySem L2
noncomputable def OV : Err → Str
 | .nogate => "no gate" | .taken => "taken" | .upside => "upside down" | .bounds => "out of bounds" | .full => "beach full" | .deeds => "deeds full" | .nothing => "nothing back"
 | .badlist => "bad list" | .few => "too few" | .size => "wrong size" | .badthrow => "bad throw" | .badrow => "bad row"
noncomputable def QK : Option Err → Str
 | none => ""
 | some e => OV e
inductive Wrd (w : Str) : Prop where
 | put (h : w = "put") | take (h : w = "take") | lift (h : w = "lift") | sink (h : w = "sink") | back (h : w = "back")
noncomputable def A8 (w : Str) (gs : List G) (past : List (List G)) (p x y : Int) : Option Err :=
 if w = "back" then Db past p else if w = "put" then FS gs past p x y else if w = "take" then C2 gs past p else if w = "lift" then Ba gs past p x y else Ba gs past p (-x) (-y)
noncomputable def Ak (w : Str) (gs : List G) (p x y : Int) : Int × Int :=
 if w = "put" then (x, y) else
  if w = "lift" then (((AW gs p).elim 0 G.f) + x, ((AW gs p).elim 0 G.h) + y) else
  if w = "sink" then (((AW gs p).elim 0 G.f) - x, ((AW gs p).elim 0 G.h) - y) else ((AW gs p).elim 0 G.f, (AW gs p).elim 0 G.h)
noncomputable def B2 (w : Str) (gs : List G) (past : List (List G)) (p x y : Int) : List G :=
 if w = "back" then past.getD (past.length - p.toNat) [] else if w = "take" then Bd gs p [] else Bd gs p [⟨p, (Ak w gs p x y).1, (Ak w gs p x y).2⟩]
noncomputable def CQ (w : Str) (gs : List G) (past : List (List G)) (p : Int) : List (List G) := if w = "back" then past.take (past.length - p.toNat) else past ++ [gs]
noncomputable def aft (w : Str) (gs : List G) (past : List (List G)) (p x y : Int) : List G × List (List G) := match A8 w gs past p x y with
 | some _ => (gs, past)
 | none => (B2 w gs past p x y, CQ w gs past p)
theorem LF {w : Str} {gs : List G} {past : List (List G)} {p x y : Int} (wd : Wrd w) (nb : w ≠ "back") (h1 : w = "put" → p ∉ Ab gs) (h2 : w ≠ "put" → p ∈ Ab gs) (sd : Std gs) :
  A8 w gs past p x y = (DA p (Ak w gs p x y).1 (Ak w gs p x y).2).or (if w = "put" ∧ 40 ≤ gs.length then some .full else Bz past) := by
 unfold A8
 rw [if_neg nb]
 rcases wd with e | e | e | e | e
 ·subst e
  rw [if_pos rfl]
  unfold FS Ak Bz
  rw [if_neg (h1 rfl), if_pos rfl]
  by_cases h4 : 40 ≤ gs.length
  ·rw [if_pos h4, if_pos ⟨rfl, h4⟩]
  ·rw [if_neg h4, if_neg (show ¬ (("put" : Str) = "put" ∧ 40 ≤ gs.length) from fun z => h4 z.2)]
 all_goals first | exact absurd e nb | skip
 all_goals
  have np : w ≠ "put" := by rw [e]; decide
  have hp := h2 np
  obtain ⟨g, hg, hgp⟩ := List.mem_map.mp hp
  have gof : AW gs p = some g := hgp ▸ IU sd.asc hg
  rw [if_neg np, if_neg (show ¬ (w = "put" ∧ 40 ≤ gs.length) from fun z => np z.1)]
  unfold Ak
  rw [if_neg np, gof]
 ·rw [if_pos e, if_neg (by rw [e]; decide), if_neg (by rw [e]; decide)]
  unfold C2
  rw [if_pos hp]
  have : DA p g.f g.h = none := hgp ▸ Bk.mpr (sd.ok g hg)
  show _ = (DA p g.f g.h).or _
  rw [this]
  rfl
 ·rw [if_neg (by rw [e]; decide), if_pos e, if_pos e]
  unfold Ba
  rw [gof]
  rfl
 ·rw [if_neg (by rw [e]; decide), if_neg (by rw [e]; decide), if_neg (by rw [e]; decide), if_pos e]
  unfold Ba
  rw [gof]
  rfl
theorem MY {w : Str} {gs : List G} {past : List (List G)} {p x y : Int} (wd : Wrd w) (nb : w ≠ "back") : (w = "put" → p ∈ Ab gs → A8 w gs past p x y = some .taken) ∧ (w ≠ "put" → p ∉ Ab gs → A8 w gs past p x y = some .nogate) := by
 constructor
 ·intro e hp
  unfold A8 FS
  rw [if_neg nb, if_pos e, if_pos hp]
 ·intro np hp
  unfold A8
  rw [if_neg nb, if_neg np]
  unfold C2 Ba
  rw [Bs.mpr hp, if_neg hp]
  split
  ·rfl
  ·split <;> rfl
theorem J0 {H : Hp} {D : Addr} {gs : List G} {x : Int} {o : Option V} (hn : AW gs x = none → o = none) (hs : ∀ g, AW gs x = some g → ∃ a, o = some (.ref a) ∧ H a = some (.tup [.int g.f, .int g.h])) : o.isSome = decide (x ∈ Ab gs) := by
 cases hg : AW gs x with
 | none => rw [hn hg, decide_eq_false (Bs.mp hg)]; rfl
 | some g =>
  obtain ⟨a, rfl, _⟩ := hs g hg
  obtain ⟨h1, h2⟩ := Aw hg
  rw [decide_eq_true (List.mem_map.mpr ⟨g, h1, h2⟩)]
  rfl
open PySem.W PySem.Calls
noncomputable def FL (tb : String → Option Builtin) (p : Program) (w : World) (n₀ : Nat) (ann : Option Value) : Nat → SharedT → Thread → Option SharedT
 | 0, _, _ => none
 | n + 1, s, t => match through t with
  | true => some s
  | false => match stepOk n₀ ann t with
   | false => none
   | true => match stepT (denote tb) p w s t with
    | some (s', t') => FL tb p w n₀ ann n s' t'
    | none => none
theorem Ge {tb : String → Option Builtin} {p : Program} {w : World} {n₀ : Nat} {ann : Option Value} : ∀ {n : Nat} {s s' : SharedT} {t : Thread}, FL tb p w n₀ ann n s t = some s' → topRun tb p w n₀ ann n s.abs t = some s'.abs
 | 0, _, _, _, h => by cases h
 | n + 1, s, s', t, h => by
  unfold FL at h
  unfold topRun
  cases he : through t with
  | true => rw [he] at h; cases h; rfl
  | false =>
   rw [he] at h
   cases hk : stepOk n₀ ann t with
   | false => rw [hk] at h; cases h
   | true =>
    rw [hk] at h
    cases hs : stepT (denote tb) p w s t with
    | none => rw [hs] at h; cases h
    | some r => obtain ⟨s₂, t₂⟩ := r; rw [hs] at h; rw [stepT_spec hs]; exact Ge h
noncomputable def Kof (as : List Addr) (h : Heap) : Frag := as.filterMap fun a => (h.get? a).map fun o => (a, o)
theorem Sl (as : List Addr) (h : Heap) : (Kof as h).In h := by
 intro a o e
 induction as with
 | nil => cases e
 | cons b r ih =>
  simp only [Kof, List.filterMap_cons] at e
  cases hb : h.get? b with
  | none => rw [hb] at e; exact ih e
  | some ob =>
   rw [hb] at e
   simp only [Option.map_some, List.lookup] at e
   split at e
   ·rename_i q; cases e; rw [beq_iff_eq.mp q]; exact hb
   ·exact ih e
noncomputable def T6 (t : BT) (n a : Nat) : Option Obj := match Nat.blt a n with
 | true => alive ((t.get a).getD default)
 | false => none
noncomputable def Mv (as : List Addr) (s : SharedT) : Frag := as.filterMap fun a => (T6 s.tree s.n a).map fun o => (a, o)
theorem OF (t : BT) (n : Nat) (life : Life) (a : Nat) : (absHeap t n life).get? a = T6 t n a := by
 unfold T6
 cases h : Nat.blt a n with
 | true =>
  have h' : a < n := by simpa [Nat.blt_eq] using h
  show _ = alive ((t.get a).getD default)
  unfold Heap.get?
  rw [absHeap_at, if_pos h']
  generalize (t.get a).getD default = o
  obtain ⟨c, d, dt, sl⟩ := o
  cases dt <;> rfl
 | false =>
  have h' : ¬ a < n := by intro q; rw [Nat.blt_eq.mpr q] at h; cases h
  exact abs_get_none h'
theorem OX (as : List Addr) (s : SharedT) : Kof as s.abs.heap = Mv as s := by
 unfold Kof Mv
 congr 1
 funext a
 show ((absHeap s.tree s.n s.life).get? a).map _ = _
 rw [OF]
noncomputable def NR : Nat → BT → List Obj → BT
 | _, t, [] => t
 | i, t, o :: r => NR (i + 1) (t.ins i o) r
noncomputable def N0 (P : Params) (os : OsState) : SharedT := ⟨NR 0 .nil (boot_heap P).objs.toList, 11, {}, #[], boot_drawn, boot_toks, os⟩
theorem L5 (P : Params) (os : OsState) : (N0 P os).abs = ⟨boot_heap P, #[], boot_drawn, boot_toks, os⟩ := by kernel_rfl
theorem MX (P : Params) : ((boot_heap P).isNs mainGlobals && (#[] : Array GenState).size == 0, (boot_heap P).objs.size, (boot_heap P).nsMap mainGlobals "__annotations__") = (true, 11, some (.ref 6)) := by kernel_rfl
noncomputable def N2 {β : Type} (p q : Program) (loose : List Str) (obs : SharedT → β) (P : Params) (s : SharedT) :=
 ((staticsOk (importedModules p.main.body) (boot_heap P) s.abs.heap && namesBound p s.abs.heap && gensDone s.abs && laidKept (boot_heap P) s.abs.heap), openSeen q loose (importedModules p.main.body) (fun _ => true) true s.abs, obs s)
noncomputable def Ft {β : Type} (p q : Program) (loose : List Str) (obs : SharedT → β) (M : Nat) (w : World) (os : OsState) :=
 (FL treeTable p w 11 (some (.ref 6)) M (N0 w.params os) (topStub p)).map (N2 p q loose obs w.params)
noncomputable def N9 {β : Type} (p : Program) (obs : SharedT → β) (M : Nat) (w : World) (os : OsState) :=
 (FL treeTable p w 11 (some (.ref 6)) M (N0 w.params os) (topStub p)).map obs
theorem Kn {β : Type} {p q : Program} {loose : List Str} {B : SharedT → β} {M : Nat} {w : World} {os : OsState} {v : β} (e1 : Ft p q loose (fun _ => ()) M w os = some (true, openGood q loose, ())) (e2 : N9 p B M w os = some v) : Ft p q loose B M w os = some (true, openGood q loose, v) := by
 obtain ⟨s, r, l⟩ := Option.map_eq_some_iff.mp e1
 obtain ⟨s', r', l'⟩ := Option.map_eq_some_iff.mp e2
 obtain rfl : s = s' := Option.some.inj (r.symm.trans r')
 obtain ⟨l1, l2, -⟩ : _ ∧ _ ∧ _ := by simpa only [N2, Prod.mk.injEq] using l
 unfold Ft
 rw [r]
 exact congrArg some (Prod.ext l1 (Prod.ext l2 l'))
noncomputable abbrev Seen := Option (Str × Str × Arguments × List Stmt × Scope × Addr × List (Str × Addr) × Addr × Bool × List Int)
noncomputable def J7 : List Value → Option (List Int)
 | [] => some []
 | .int i _ :: r => (J7 r).map (i :: ·)
 | _ => none
noncomputable def dfl (K : Frag) : Value → Option (List Int)
 | .none => some []
 | .ref d => match K.lookup d with
  | some ⟨_, _, .seq vs _, _⟩ => match J7 vs.toList with
   | some (i :: r) => some (i :: r)
   | _ => none
  | _ => none
 | _ => none
noncomputable def Nq (K : Frag) (f : Addr) (qual : Str) : Seen := match K.lookup f with
 | some ⟨_, _, .func ⟨nm, q, ps, .stmts b, sc, g, cl, dV, _, _, _, _, cd, _, bi⟩, _⟩ => match dfl K dV with
  | some ds => some (nm, q, ps, b, sc, g, cl, bi, codeIn K cd qual && keepIn K (.ref f), ds)
  | none => none
 | _ => none
noncomputable def BL (K : Frag) (x : Str) : Seen := match nsIn K mainGlobals x with
 | some (some (.ref f)) => Nq K f x
 | _ => none
noncomputable def DE (K : Frag) (c x qual : Str) : Seen := match nsIn K mainGlobals c with
 | some (some (.ref C)) => match findIn K (.ref C) x with
  | some (some (.ref f)) => match isFn K (.ref f) with
   | true => Nq K f qual
   | false => none
  | _ => none
 | _ => none
noncomputable def Ap (x qual : Str) (st : Stmt) (ds : List Int) : Seen := some (x, qual, BF st, A1 st, AF st, mainGlobals, [], builtinsNs, true, ds)
noncomputable def OS (K : Frag) (c : Str) (fs : List Str) : Bool := match nsIn K mainGlobals c with
 | some (some (.ref C)) => plainGet K C Str.empty && hasDictIn K C && plainOver K C && findIn K (.ref C) "__setattr__" == some (some (.builtin "object.__setattr__")) && makesIn K C && keepIn K (.ref C) && fs.all fun f => findIn K (.ref C) f == some none
 | _ => false
noncomputable def Ek (K : Frag) (c : Str) : Bool := match nsIn K mainGlobals c with
 | some (some (.ref C)) => excIn K C bmV "ValueError.__new__"
 | _ => false
noncomputable def Pl (K : Frag) (a b : Str) : Option Bool := match nsIn K mainGlobals a, nsIn K mainGlobals b with
 | some (some (.ref A)), some (some (.ref B)) => exmOne K (.ref A) (.ref B)
 | _, _ => none
noncomputable def JM (K : Frag) (x : Str) : Option Int := match nsIn K mainGlobals x with
 | some (some (.int i _)) => some i
 | _ => none
noncomputable def Qg (K : Frag) (x : Str) : Option Str := match nsIn K mainGlobals x with
 | some (some (.str i _)) => some i
 | _ => none
noncomputable def Fl (K : Frag) (x : Str) : Bool := match nsIn K mainGlobals x with
 | some none => true
 | _ => false
section
variable {K : Frag}
theorem Jt {v : Value} (e : dfl K v = some []) : v = .none := by
 unfold dfl at e
 split at e
 ·rfl
 ·repeat' split at e
  all_goals cases e
 ·cases e
theorem Ie : ∀ {vs : List Value} {is : List Int}, J7 vs = some is → ∃ ts : List Tok, ts.length = is.length ∧ vs = is.zipWith Value.int ts
 | [], is, e => by cases e; exact ⟨[], rfl, rfl⟩
 | v :: r, is, e => by
  unfold J7 at e
  split at e
  ·cases e; rename_i h; cases h
  ·rename_i i t r' h
   cases h
   cases h2 : J7 r with
   | none => rw [h2] at e; cases e
   | some js =>
    rw [h2] at e
    cases e
    obtain ⟨ts, hl, rfl⟩ := Ie h2
    exact ⟨t :: ts, by simp [hl], rfl⟩
  ·cases e
theorem N5 {v : Value} {i : Int} {r : List Int} (e : dfl K v = some (i :: r)) : ∃ d cl di n sl ts, v = .ref d ∧ ts.length = (i :: r).length ∧ K.lookup d = some ⟨cl, di, .seq ((i :: r).zipWith Value.int ts).toArray n, sl⟩ := by
 unfold dfl at e
 split at e
 ·cases e
 ·rename_i d
  split at e
  ·rename_i cl di vs n sl hl
   split at e
   ·rename_i j r' h
    cases e
    obtain ⟨ts, h1, h2⟩ := Ie h
    refine ⟨d, cl, di, n, sl, ts, rfl, h1, ?_⟩
    rw [hl, ← h2]
   ·cases e
  ·cases e
 ·cases e
theorem JK {f : Addr} {x qual : Str} {st : Stmt} {ds : List Int} (e : Nq K f qual = Ap x qual st ds) : ∃ (oc : Value) (od : Option Addr) (sl : Array (Option Value)) (dV kV dc pm : Value) (an : Option Addr) (cd ct : Value),
  K.lookup f = some ⟨oc, od, .func (fnOf x qual (BF st) (A1 st) (AF st) dV kV dc pm an cd ct), sl⟩ ∧ codeIn K cd qual = true ∧ keepIn K (.ref f) = true ∧ dfl K dV = some ds := by
 unfold Nq Ap at e
 split at e
 ·rename_i oc od nm q ps b sc g cl dV kV dc pm an cd ct bi sl hl
  split at e
  ·rename_i ds' hd
   simp only [Option.some.injEq, Prod.mk.injEq, Bool.and_eq_true] at e
   obtain ⟨rfl, rfl, rfl, rfl, rfl, rfl, rfl, rfl, ⟨h1, h2⟩, rfl⟩ := e
   exact ⟨oc, od, sl, dV, kV, dc, pm, an, cd, ct, hl, h1, h2, hd⟩
  ·cases e
 ·cases e
theorem Lz {x : Str} {st : Stmt} (e : BL K x = Ap x x st []) : ∃ (f : Addr) (oc : Value) (od : Option Addr) (sl : Array (Option Value)) (kV dc pm : Value) (an : Option Addr) (cd ct : Value),
  nsIn K mainGlobals x = some (some (.ref f)) ∧ K.lookup f = some ⟨oc, od, .func (fnOf x x (BF st) (A1 st) (AF st) .none kV dc pm an cd ct), sl⟩ ∧ codeIn K cd x = true ∧ keepIn K (.ref f) = true := by
 unfold BL at e
 split at e
 ·rename_i f hf
  obtain ⟨oc, od, sl, dV, kV, dc, pm, an, cd, ct, h1, h2, h3, h4⟩ := JK e
  cases Jt h4
  exact ⟨f, oc, od, sl, kV, dc, pm, an, cd, ct, hf, h1, h2, h3⟩
 ·cases e
theorem PP {C : Addr} {c x qual : Str} {st : Stmt} {ds : List Int} (hc : nsIn K mainGlobals c = some (some (.ref C))) (e : DE K c x qual = Ap x qual st ds) : ∃ f : Addr, findIn K (.ref C) x = some (some (.ref f)) ∧ isFn K (.ref f) = true ∧ Nq K f qual = Ap x qual st ds := by
 unfold DE at e
 rw [hc] at e
 dsimp only at e
 split at e
 ·rename_i f hf
  split at e
  ·rename_i h
   exact ⟨f, hf, h, e⟩
  ·cases e
 ·cases e
theorem Oe {C : Addr} {c x qual : Str} {st : Stmt} (hc : nsIn K mainGlobals c = some (some (.ref C))) (e : DE K c x qual = Ap x qual st []) : ∃ (f : Addr) (oc : Value) (od : Option Addr) (sl : Array (Option Value)) (kV dc pm : Value) (an : Option Addr) (cd ct : Value),
  findIn K (.ref C) x = some (some (.ref f)) ∧ isFn K (.ref f) = true ∧ K.lookup f = some ⟨oc, od, .func (fnOf x qual (BF st) (A1 st) (AF st) .none kV dc pm an cd ct), sl⟩ ∧ codeIn K cd qual = true ∧ keepIn K (.ref f) = true := by
 obtain ⟨f, hf, hi, e⟩ := PP hc e
 obtain ⟨oc, od, sl, dV, kV, dc, pm, an, cd, ct, h1, h2, h3, h4⟩ := JK e
 cases Jt h4
 exact ⟨f, oc, od, sl, kV, dc, pm, an, cd, ct, hf, hi, h1, h2, h3⟩
theorem Mo {C : Addr} {c x qual : Str} {st : Stmt} {i : Int} (hc : nsIn K mainGlobals c = some (some (.ref C))) (e : DE K c x qual = Ap x qual st [i]) : ∃ (f : Addr) (oc : Value) (od : Option Addr) (sl : Array (Option Value)) (d : Addr) (kV dc pm : Value) (an : Option Addr) (cd ct : Value) (dcl : Value) (ddi : Option Addr) (dn : Nat) (dsl : Array (Option Value)) (tk : Tok),
  findIn K (.ref C) x = some (some (.ref f)) ∧ isFn K (.ref f) = true ∧ K.lookup f = some ⟨oc, od, .func (fnOf x qual (BF st) (A1 st) (AF st) (.ref d) kV dc pm an cd ct), sl⟩ ∧ codeIn K cd qual = true ∧ keepIn K (.ref f) = true ∧ K.lookup d = some ⟨dcl, ddi, .seq #[.int i tk] dn, dsl⟩ := by
 obtain ⟨f, hf, hi, e⟩ := PP hc e
 obtain ⟨oc, od, sl, dV, kV, dc, pm, an, cd, ct, h1, h2, h3, h4⟩ := JK e
 obtain ⟨d, cl, di, n, sl', ts, rfl, hl, h5⟩ := N5 h4
 match ts, hl with
 | [t], _ => exact ⟨f, oc, od, sl, d, kV, dc, pm, an, cd, ct, cl, di, n, sl', t, hf, hi, h1, h2, h3, h5⟩
theorem Ll {c : Str} {fs : List Str} (e : OS K c fs = true) : ∃ C : Addr, nsIn K mainGlobals c = some (some (.ref C)) ∧ plainGet K C Str.empty = true ∧ hasDictIn K C = true ∧ plainOver K C = true ∧
  findIn K (.ref C) "__setattr__" = some (some (.builtin "object.__setattr__")) ∧ makesIn K C = true ∧ keepIn K (.ref C) = true ∧ ∀ f ∈ fs, findIn K (.ref C) f = some none := by
 unfold OS at e
 split at e
 ·rename_i C hC
  simp only [Bool.and_eq_true, beq_iff_eq, List.all_eq_true] at e
  obtain ⟨⟨⟨⟨⟨⟨h1, h2⟩, h3⟩, h4⟩, h5⟩, h6⟩, h7⟩ := e
  exact ⟨C, hC, h1, h2, h3, h4, h5, h6, h7⟩
 ·cases e
theorem BP {c : Str} (e : Ek K c = true) : ∃ C : Addr, nsIn K mainGlobals c = some (some (.ref C)) ∧ excIn K C [.type "ValueError", .type "Exception", .type "BaseException", .type "object"] "ValueError.__new__" = true := by
 unfold Ek at e
 split at e
 ·rename_i C hC
  exact ⟨C, hC, e⟩
 ·cases e
theorem OO {a b : Str} {A B : Addr} {r : Bool} (ha : nsIn K mainGlobals a = some (some (.ref A))) (hb : nsIn K mainGlobals b = some (some (.ref B))) (e : Pl K a b = some r) : exmOne K (.ref A) (.ref B) = some r := by
 unfold Pl at e
 rw [ha, hb] at e
 exact e
theorem DJ {x : Str} {i : Int} (e : JM K x = some i) : ∃ t : Tok, nsIn K mainGlobals x = some (some (.int i t)) := by
 unfold JM at e
 split at e
 ·rename_i j t h
  cases e
  exact ⟨t, h⟩
 ·cases e
theorem OP {x y : Str} (e : Qg K x = some y) : ∃ t : Tok, nsIn K mainGlobals x = some (some (.str y t)) := by
 unfold Qg at e
 split at e
 ·rename_i j t h
  cases e
  exact ⟨t, h⟩
 ·cases e
theorem Be {x : Str} (e : Fl K x = true) : nsIn K mainGlobals x = some none := by
 unfold Fl at e
 split at e
 ·assumption
 ·cases e
end
theorem Qt {R : WRecords} {h : Heap} (e : R = []) : RecFacts R h := by
 subst e
 exact ⟨fun x hx => (nomatch hx), fun x hx => (nomatch hx), fun c c' a (hc : false = true) => (nomatch hc), fun c fs (hf : none = some fs) => (nomatch hf)⟩
theorem On {c A B : Prop} [Decidable c] {H : Hp} {D : Addr} {k : V} {o : Option V} (gt : Dn H D k o) (hA : c → o.isSome = true → A) (hB : (c → o.isSome = false) → B) :
  if decide c = true then (∃ x, Dn H D k x ∧ if x.isSome = true then A else B) else B := by
 by_cases hc : c
 ·rw [if_pos (decide_eq_true hc)]
  refine ⟨o, gt, ?_⟩
  cases ho : o.isSome with
  | true => rw [if_pos rfl]; exact hA hc ho
  | false => rw [if_neg Bool.false_ne_true]; exact hB fun _ => ho
 ·rw [if_neg (fun z => hc (of_decide_eq_true z))]
  exact hB fun z => absurd z hc
end TG
namespace L2
open PySem
end L2
namespace TG
open PySem L2
theorem C6 {w : Str} {gs : List G} {past : List (List G)} {p : Int} (nb : w ≠ "back") : CQ w gs past p = past ++ [gs] := if_neg nb
theorem De {w : Str} {gs : List G} {past : List (List G)} {p x y : Int} (nb : w ≠ "back") (nt : w ≠ "take") : B2 w gs past p x y = Bd gs p [⟨p, (Ak w gs p x y).1, (Ak w gs p x y).2⟩] := by
 unfold B2
 rw [if_neg nb, if_neg nt]
theorem Eo {w : Str} {gs : List G} {past : List (List G)} {p x y : Int} (e : w = "take") : B2 w gs past p x y = Bd gs p [] := by
 unfold B2
 rw [if_neg (by rw [e]; decide), if_pos e]
theorem IR {w : Str} {gs : List G} {past : List (List G)} {p x y : Int} (e : w = "put") : A8 w gs past p x y = FS gs past p x y := by
 unfold A8
 rw [if_neg (by rw [e]; decide), if_pos e]
theorem Ee {w : Str} {gs : List G} {past : List (List G)} {p x y : Int} (e : w = "take") : A8 w gs past p x y = C2 gs past p := by
 unfold A8
 rw [if_neg (by rw [e]; decide), if_neg (by rw [e]; decide), if_pos e]
theorem HP {w : Str} {gs : List G} {past : List (List G)} {p x y : Int} (e : w = "lift") : A8 w gs past p x y = Ba gs past p x y := by
 unfold A8
 rw [if_neg (by rw [e]; decide), if_neg (by rw [e]; decide), if_neg (by rw [e]; decide), if_pos e]
theorem HW {w : Str} {gs : List G} {past : List (List G)} {p x y : Int} (e : w = "sink") : A8 w gs past p x y = Ba gs past p (-x) (-y) := by
 unfold A8
 rw [if_neg (by rw [e]; decide), if_neg (by rw [e]; decide), if_neg (by rw [e]; decide), if_neg (by rw [e]; decide)]
theorem Eg {w : Str} {gs : List G} {past : List (List G)} {p x y : Int} (e : w = "back") : A8 w gs past p x y = Db past p := if_pos e
noncomputable def DL (D L : Addr) (H H' : Hp) : Prop := ∀ a u, a ≠ D → a ≠ L → H a = some u → H' a = some u
theorem DL.of {D L : Addr} {H H' : Hp} (s : AH H H') : DL D L H H' := fun _ _ _ _ e => s _ _ e
theorem DL.trans {D L : Addr} {H H1 H2 : Hp} (a : DL D L H H1) (b : DL D L H1 H2) : DL D L H H2 := fun c u h1 h2 e => b c u h1 h2 (a c u h1 h2 e)
theorem DL.updD {D L : Addr} {H : Hp} {o : HO} : DL D L H (upd H D o) := fun _ _ h _ e => (AI h).trans e
theorem DL.updL {D L : Addr} {H : Hp} {o : HO} : DL D L H (upd H L o) := fun _ _ _ h e => (AI h).trans e
section
variable {C D L b S P : Addr} {ow : List Addr} {gs : List G} {past : List (List G)} {H H' : Hp} {kvs : List (Key × V)} {xs : List V}
theorem DL.tup (k : DL D L H H') (eD : H D = some (.dK kvs)) (eL : H L = some (.lst xs)) {a : Addr} {ys : List V} (e : H a = some (.tup ys)) : H' a = some (.tup ys) :=
 k a _ (A4 e eD fun z => by cases z) (A4 e eL fun z => by cases z) e
theorem DL.dk (k : DL D L H H') (eL : H L = some (.lst xs)) {a : Addr} {ys : List (Key × V)} (ha : a ≠ D) (e : H a = some (.dK ys)) : H' a = some (.dK ys) :=
 k a _ ha (A4 e eL fun z => by cases z) e
theorem Kept.dl (eD : H D = some (.dK kvs)) (eL : H L = some (.lst xs)) (k : DL D L H H') (lD : ∃ u, H' D = some u) (lL : ∃ u, H' L = some u) : Kept (L :: ow) H H' (L :: ow) where
 tup := fun c ys e => k.tup eD eL e
 lst := fun c ys n e => k c _ (A4 e eD fun z => by cases z) (fun z => n (by rw [z]; exact List.mem_cons_self)) e
 frz := fun c o u e => k c _ (A4 e eD fun z => by cases z) (A4 e eL fun z => by cases z) e
 off := fun _ h => .inl h
 live := fun c u e => by
  by_cases h1 : c = D
  ·rw [h1]; exact lD
  ·by_cases h2 : c = L
   ·rw [h2]; exact lL
   ·exact ⟨u, k c u h1 h2 e⟩
 tbl := fun c ps e => k c _ (A4 e eD fun z => by cases z) (A4 e eL fun z => by cases z) e
theorem Ay.copy {d d' : Addr} (h : Ay H d gs) (e : H d = some (.dK kvs)) (e' : H' d' = some (.dK kvs)) (kt : ∀ a ys, H a = some (.tup ys) → H' a = some (.tup ys)) : Ay H' d' gs := by
 obtain ⟨kvs', ks, e1, e2, p, q⟩ := h.at_
 rw [e] at e1
 cases e1
 exact ⟨kvs, ks, e', e2, p, fun g hg => (q g hg).imp fun a z => ⟨z.1, kt _ _ z.2⟩⟩
theorem Ay.dl {d : Addr} (h : Ay H d gs) (hd : d ≠ D) (eD : H D = some (.dK kvs)) (eL : H L = some (.lst xs)) (k : DL D L H H') : Ay H' d gs :=
 h.keep (fun _ e => k.dk eL hd e) fun _ _ e => k.tup eD eL e
theorem Paired.dl {ds : List Addr} (pr : Paired (Ay H) ds past) (hd : D ∉ ds) (eD : H D = some (.dK kvs)) (eL : H L = some (.lst xs)) (k : DL D L H H') : Paired (Ay H') ds past :=
 Paired.keepM pr fun x y hx q => q.dl (D := D) (fun z => hd (by rw [← z]; exact hx)) eD eL k
end
end TG
namespace L2
theorem PM {K : PySem.W.Frag} {H : Hp} {p : PySem.Addr} {kvs : List (Key × V)} (e : H p = some (.dK kvs)) : tyV K "dict" (.ref p) H := .inr (.inr (.inl ⟨rfl, .inl ⟨_, e⟩⟩))
theorem tyV_l {K : PySem.W.Frag} {H : Hp} {p : PySem.Addr} {xs : List V} (e : H p = some (.lst xs)) : tyV K "list" (.ref p) H := .inl ⟨rfl, _, SqL.of e⟩
end L2
namespace TG
open PySem L2
theorem Lw {w : Str} {gs : List G} {past : List (List G)} {p x y : Int} {e : Err} (h : A8 w gs past p x y = some e) : aft w gs past p x y = (gs, past) := by unfold aft; rw [h]
theorem NW {w : Str} {gs : List G} {past : List (List G)} {p x y : Int} (h : A8 w gs past p x y = none) : aft w gs past p x y = (B2 w gs past p x y, CQ w gs past p) := by unfold aft; rw [h]
theorem NV {K : PySem.W.Frag} {H H' : Hp} {a : Addr} {xs : List V} (h : SqT K H a xs) (k : ∀ ys, H a = some (.tup ys) → H' a = some (.tup ys)) (kf : ∀ o u, H a = some (.frz o u) → H' a = some (.frz o u)) : SqT K H' a xs := by
 rcases h with (h | ⟨o, h⟩) | h
 ·exact .inl (.inl (k _ h))
 ·exact .inl (.inr ⟨o, kf _ _ h⟩)
 ·exact .inr h
theorem Kept.sqt {K : PySem.W.Frag} {ow ow' : List Addr} {H H' : Hp} (k : Kept ow H H' ow') {a : Addr} {xs : List V} (e : SqT K H a xs) : SqT K H' a xs := NV e (fun _ e => k.tup _ _ e) fun _ _ e => k.frz _ _ _ e
end TG
namespace L2
open PySem
end L2
namespace TG
open PySem L2
end TG
namespace L2
open PySem PySem.Spec PyProof.Rows
section
variable {X : Cx}
noncomputable def E6 (K : PySem.W.Frag) : List V → Hp → VK → Prop := fun xs H Q => ∃ l, xs = [.ref l] ∧ ∃ ns : List Int, SqL K H l (ns.map V.int) ∧ ns.length < 4000 ∧
 ∀ (D : Addr) (H' : Hp) (S : Int → Bool) (n : Nat), H D = none → AH H H' → H' D = some (.set S n) → n ≤ ns.length → (n = ns.length ↔ ns.Nodup) → Q (.ref D) H'
noncomputable def FK : List V → Hp → VK → Prop := fun xs H Q => ∃ a, xs = [V.ref a] ∧ ∃ (S : Int → Bool) (n : Nat), H a = some (.set S n) ∧ Q (.int n) H
end
end L2
namespace TG
open PySem L2
end TG
namespace L2
open PySem
open PySem.Spec PyProof.Rows
section
variable {X : Cx}
noncomputable def E3 (K : PySem.W.Frag) : R2 := fun x y H Q => ∃ a b, x = .ref a ∧ y = .ref b ∧ ∃ ns : List Int, SqL K H a (ns.map V.int) ∧ ∃ ms : List Int, SqL K H b (ms.map V.int) ∧ Q (.bl (decide (ns = ms))) H
end
end L2
namespace TG
open PySem L2
open PySem.W
section
variable {K : Frag} {mg : Str → Option Value} {h : Heap}
theorem Aj {x : Str} {st : Stmt} {ps : List Str} (X : K.In h) (G : h.Ns mainGlobals mg) (e : BL K x = Ap x x st [])
  (b : ∀ (kV doc pm : Value) (an : Option Addr) (cdv ct : Value) (us : List Value), us.length = ps.length → bindArgs (fnOf x x (BF st) (A1 st) (AF st) .none kV doc pm an cdv ct) ⟨us, []⟩ = pure (ps.zip us)) : ∃ f fd, D K mg x st ps f fd := by
 obtain ⟨f, oc, od, sl, kV, dc, pm, an, cd, ct, a, l, c, k⟩ := Lz e
 exact ⟨f, _, Fn l c k, mg_of X G a, (Fn l c k).binds b⟩
theorem Bx {C : Addr} {c x qual : Str} {st : Stmt} {ps : List Str} (hc : nsIn K mainGlobals c = some (some (.ref C))) (e : DE K c x qual = Ap x qual st [])
  (b : ∀ (kV doc pm : Value) (an : Option Addr) (cdv ct : Value) (us : List Value), us.length = ps.length → bindArgs (fnOf x qual (BF st) (A1 st) (AF st) .none kV doc pm an cdv ct) ⟨us, []⟩ = pure (ps.zip us)) : ∃ f fd, DM K C x qual st ps f fd := by
 obtain ⟨f, oc, od, sl, kV, dc, pm, an, cd, ct, a, i, l, c, k⟩ := Oe hc e
 exact ⟨f, _, Fn l c k, ⟨a, i, k⟩, (Fn l c k).binds b⟩
theorem Ol {C : Addr} {c x qual : Str} {st : Stmt} {ps : List Str} {j : Int} (hc : nsIn K mainGlobals c = some (some (.ref C))) (e : DE K c x qual = Ap x qual st [j])
  (b : ∀ (s : Shared) (d : Addr) (kV doc pm : Value) (an : Option Addr) (cdv ct : Value) (cl : Value) (di : Option Addr) (n : Nat) (sl : Array (Option Value)) (tk : Tok) (us : List Value), s.heap.get? d = some ⟨cl, di, .seq #[.int j tk] n, sl⟩ → us.length = ps.length → BindsTo s (fnOf x qual (BF st) (A1 st) (AF st) (.ref d) kV doc pm an cdv ct) ⟨us, []⟩ (ps.zip us))
  (bd : ∀ (s : Shared) (d : Addr) (kV doc pm : Value) (an : Option Addr) (cdv ct : Value) (cl : Value) (di : Option Addr) (n : Nat) (sl : Array (Option Value)) (tk : Tok) (us : List Value), s.heap.get? d = some ⟨cl, di, .seq #[.int j tk] n, sl⟩ → us.length + 1 = ps.length → BindsTo s (fnOf x qual (BF st) (A1 st) (AF st) (.ref d) kV doc pm an cdv ct) ⟨us, []⟩ (ps.zip (us ++ [.int j tk]))) : ∃ f fd, DMD K C x qual st ps f fd [.int j] := by
 obtain ⟨f, oc, od, sl, d, kV, dc, pm, an, cd, ct, dcl, ddi, dn, dsl, tk, a, i, l, c, k, lt⟩ := Mo hc e
 refine ⟨f, _, ⟨⟨_, _, _, _, _, _, _, _, _, _, rfl, l, c⟩, k⟩, ⟨a, i, k⟩, fun s us hK hl => ?_, ⟨[.int j tk], .cons ⟨_, rfl⟩ .nil, fun s us hK hl => ?_⟩⟩
 ·rw [List.append_nil] at hl ⊢
  exact b s d kV dc pm an cd ct dcl ddi dn dsl tk us (hK _ _ lt) hl
 ·exact bd s d kV dc pm an cd ct dcl ddi dn dsl tk us (hK _ _ lt) (by simpa using hl)
end
end TG
namespace L2
open PySem PySem.Spec PyProof.Rows
section
variable {prog : Program} {w : World} {A : Around} {R : Result → Shared → Prop} {I : Addr} {fp wr : List Addr} {G : Array GenState → Array GenState → Prop} {n : Nat} {P : Nat → Value → Prop} {St : Nat → Shared → Prop}
end
section
variable {X : Cx}
end
end L2
namespace TG
open PySem L2
end TG
namespace L2
open PySem PySem.Spec PyProof.Rows
section
variable {M : Model} {A : Around} {E : Value → Shared → Prop} {s : Shared} {B : Heap} {l : List Env} {ea : Addr} {kl a0 fl : Value}
theorem MZ {g : Option Addr} {Q : Unit → Shared → Prop} (st : B.StaysIn s.heap) (ff : s.heap.FunFrames B l) (tr : s.heap.TracedAtW B ea kl a0 fl)
  (q : ∀ h2, B.StaysIn h2 → h2.FunFrames B l → h2.TracedAtW B ea kl a0 (g.elim .none fun f => rawInt f) → s.heap.UpToSlots h2 → Q () { s with heap := h2 }) : wpAny M A (setFlight (.ref ea) g) Q E s := by
 obtain ⟨ob, us, tb, ot, ws, g1, g2, g3, g4, g5, g6, g7, g8, g9⟩ := tr
 have lt3 := (Array.getElem?_eq_some_iff.mp g9).1
 have far : ∀ b, b ≠ tb → (s.heap.update tb (Obj.mapFields (·.setIfInBounds 3 (g.elim Value.none fun f => rawInt f)))).get? b = s.heap.get? b := fun b z => Heap.get?_update_other _ _ z.symm
 have rec' : ∀ b o, s.heap.get? b = some o → (∀ vs, o.data ≠ .fields vs) → b ≠ tb := fun b o e n z => by
  rw [z, g7] at e
  cases e
  exact n ws g8
 unfold setFlight
 refine wpAny_bind (wpAny_field g1 g3 g4 ?_)
 rw [if_pos (by simp)]
 refine wpAny_setField g7 g8 lt3 (q _ ?_ ?_ ?_ ?_)
 ·intro b o e
  refine (far b fun z => ?_).trans (st b o e)
  rw [z, g5] at e
  cases e
 ·exact ff.of_keeps fun b o e n => ⟨o, (far b (rec' b o e n)).trans e, rfl⟩
 ·refine ⟨ob, us, tb, _, _, (far ea g6.symm).trans g1, g2, g3, g4, g5, g6, Heap.get?_update_self _ g7 (Obj.isFreed_of_fields (Obj.data_mapFields g8 _)), Obj.data_mapFields g8 _, ?_⟩
  simp [lt3]
 ·exact fun b o e n => ⟨o.slots, (far b (rec' b o e n)).trans e⟩
theorem MO {what : String} {cenv : Env} {α : Type} {Q : α → Shared → Prop} (st : B.StaysIn s.heap) (ff : s.heap.FunFrames B l) (tr : s.heap.TracedAtW B ea kl a0 fl)
  (q : ∀ h2 fl', B.StaysIn h2 → h2.FunFrames B l → h2.TracedAtW B ea kl a0 fl' → s.heap.UpToSlots h2 → E (.ref ea) { s with heap := h2 }) : wpAny M A (PySem.passOn what (.ref ea) cenv) Q E s := by
 obtain ⟨ob, us, tb, ot, ws, g1, g2, g3, g4, g5⟩ := id tr
 unfold PySem.passOn
 refine wpAny_bind (wpAny_field g1 g3 g4 ?_)
 rw [if_neg (by simp)]
 refine wpAny_bind (MZ st ff tr fun h2 k1 k2 k3 k4 => ?_)
 exact wpAny_throw (q h2 _ k1 k2 k3 k4)
theorem K8 {env : Env} {outer : List Env} {L : Addr} {Q : Unit → Shared → Prop} (fr : A.frames = some (env :: outer)) (el : env.frame = some L) (st : B.StaysIn s.heap) (nb : B.get? ea = none) (ff : s.heap.FunFrames B (env :: outer)) (tr : s.heap.TracedAtW B ea kl a0 fl)
  (q : ∀ h2, Heap.FlyingW B outer ea kl a0 h2 → s.heap.UpToSlots h2 → Q () { s with heap := h2 }) : wpAny M A (leaving env (.ref ea)) Q E s := by
 by_cases here : fl = rawInt L
 ·rw [here] at tr
  unfold leaving
  refine wpAny_bind (wpAny_noteFrame_againW el tr ?_)
  exact wpAny_landsW ⟨st, nb, ff, tr⟩ fun h2 ⟨k1, k2, k3, k4⟩ up => q h2 ⟨k1, k2, k3.2.2, k4⟩ up
 obtain ⟨ob, us, tb, ot, ws, g1, ⟨gc, g0⟩, g3, g4, g5, g6, g7, g8, g9⟩ := tr
 subst gc
 have lt3 := (Array.getElem?_eq_some_iff.mp g9).1
 unfold leaving noteFrame
 simp only [el]
 refine wpAny_bind (wpAny_bind (wpAny_field g1 g3 g4 ?_))
 rw [if_pos (by simp)]
 refine wpAny_bind (wpAny_field g7 g8 g9 ?_)
 rw [if_neg (fun z => here (eq_of_beq z))]
 refine wpAny_bind (wpAny_setField g7 g8 lt3 ?_)
 have far : ∀ b, b ≠ tb → (s.heap.update tb (Obj.mapFields (·.setIfInBounds 3 Value.none))).get? b = s.heap.get? b := fun b z => Heap.get?_update_other _ _ z.symm
 have rec' : ∀ b o, s.heap.get? b = some o → (∀ vs, o.data ≠ .fields vs) → b ≠ tb := fun b o e n z => by
  rw [z, g7] at e
  cases e
  exact n ws g8
 have st1 : B.StaysIn (s.heap.update tb (Obj.mapFields (·.setIfInBounds 3 Value.none))) := fun b o e => (far b fun z => by rw [z, g5] at e; cases e).trans (st b o e)
 have ff1 := ff.of_keeps fun b o e n => ⟨o, (far b (rec' b o e n)).trans e, rfl⟩
 refine wpAny_newEntryW fr ff1 el ((far ea g6.symm).trans g1) st1 nb g3 (Array.getElem?_eq_some_iff.mp g4).1 g0 fun h2 ⟨x1, x2, x3, x4⟩ => q h2 ⟨x1, nb, x2.2.2, x3⟩ fun b o e n => ?_
 exact x4 b o ((far b (rec' b o e n)).trans e) n
end
section
variable {P : Program} {w : World} {K : PySem.W.Frag} {mg : Str → Option Value} {base : Heap} {N : List Str} {qual : Str} {scope : Scope} {f : Addr} {cd : Value} {A : Around} {outer : List Env} {s0 : Shared} {H0 : Hp} {E : XK}
 {pins pins' : List (Addr × Obj)} {σ σ' : St} {H H1 : Hp} {s s1 s' : Shared} {sc : Scope} {x : Str} {caps : List Str} {ix : List Nat}
theorem LQ {fp : List Addr} {C : Addr} {acc e : Value} {QQ : Value → Shared → Prop} (S : Aq (Au (CXE P w) P w K mg base N qual scope f cd A outer s0 H0 E) sc x caps ix) (I : Inv (Au (CXE P w) P w K mg base N qual scope f cd A outer s0 H0 E) pins σ H s)
  (hf : ∀ b ∈ fp, Ez (Au (CXE P w) P w K mg base N qual scope f cd A outer s0 H0 E) pins H b) (hC : s.heap.objs.size ≤ C)
  (I1 : Inv (AZ (Au (CXE P w) P w K mg base N qual scope f cd A outer s0 H0 E) sc (AY (Au (CXE P w) P w K mg base N qual scope f cd A outer s0 H0 E) caps) (x :: caps) C s H fp) pins' σ' H1 s1) (hfp : ∀ b ∈ fp, ∃ o, s1.heap.get? b = some o)
  (hx : CXE P w (Au (CXE P w) P w K mg base N qual scope f cd A outer s0 H0 E).stack H1 s1 (fun cls _ H' => E cls none H') e s') :
  notedBy (model P w) (Au (CXE P w) P w K mg base N qual scope f cd A outer s0 H0 E).A (compEnvC sc (AY (Au (CXE P w) P w K mg base N qual scope f cd A outer s0 H0 E) caps) C (Au (CXE P w) P w K mg base N qual scope f cd A outer s0 H0 E).env)
   (fun e s' => compPost (model P w) (Au (CXE P w) P w K mg base N qual scope f cd A outer s0 H0 E).A (Au (CXE P w) P w K mg base N qual scope f cd A outer s0 H0 E).xe none QQ acc C (.error e) s') e s' := by
 obtain ⟨ea, cls, H', rfl, os, bare, un, hok, ⟨B, a0, fl, c1, c2⟩, hE⟩ := hx
 have J := I1.call' (ch := []) os un hok bare (fun b z => absurd z (by simp))
 have JX := S.back I hf hC J (Heap.SameBut.refl _ _)
 have J1X := S.back I hf hC I1 (Heap.SameBut.refl _ _)
 show wpAny _ _ (noteFrame (.ref ea) (Au (CXE P w) P w K mg base N qual scope f cd A outer s0 H0 E).env) _ _ s'
 refine wpAny_looks_onW (env := (Au (CXE P w) P w K mg base N qual scope f cd A outer s0 H0 E).env) I.ok.frames rfl fl fun h4 held4 up4 => ?_
 have JX4 := Inv.fly (h' := h4) J1X JX fl.1 held4.1 up4 c1 c2
 obtain ⟨m, hn, _⟩ := J.loc
 have hn4 := up4.ns hn
 refine ⟨m, hn4, fun h5 hs cenv _ => ?_⟩
 have JX5 := PK I hC JX4 J.free hs
 have sub : (PySem.W.hideAll B [C]).StaysIn B := fun b o e => PySem.W.of_hideAll _ e
 have neC : ∀ b o, (PySem.W.hideAll B [C]).get? b = some o → b ≠ C := fun b o e z => by
  rw [z, PySem.W.hideAll_none [C] (by simp)] at e
  cases e
 have inB : ∀ b o, B.get? b = some o → b ≠ C → ∃ o', (PySem.W.hideAll B [C]).get? b = some o' := fun b o e z => ⟨o, PySem.W.hideAll_get _ e (by simpa using z)⟩
 have c1' : ∀ b o, s.heap.get? b = some o → b ∉ frs (Au (CXE P w) P w K mg base N qual scope f cd A outer s0 H0 E).stack → ∃ o', (PySem.W.hideAll B [C]).get? b = some o' := fun b o e hb => by
  have hbC : b ≠ C := Nat.ne_of_lt (Nat.lt_of_lt_of_le (Heap.lt_size e) hC)
  have : ∃ o1, s1.heap.get? b = some o1 := by
   by_cases z : b ∈ fp
   ·exact hfp b z
   ·exact I1.base.there b o e z
  obtain ⟨o1, e1⟩ := this
  obtain ⟨o2, e2⟩ := c1 b o1 e1 hb
  exact inB b o2 e2 hbC
 have c2' : ∀ b, H' b ≠ none → ∃ o', (PySem.W.hideAll B [C]).get? b = some o' := fun b hb => by
  obtain ⟨o, e⟩ := c2 b hb
  exact inB b o e fun z => hb (by rw [z]; exact J.free)
 have st5 : (PySem.W.hideAll B [C]).StaysIn h5 := fun b o e => (hs.2 b (neC b o e)).trans (held4.1 b o (sub b o e))
 have nb5 : (PySem.W.hideAll B [C]).get? ea = none := by
  cases q : (PySem.W.hideAll B [C]).get? ea with
  | none => rfl
  | some o =>
   have := sub _ _ q
   rw [held4.2.1] at this
   cases this
 have frC : ∀ env ∈ (Au (CXE P w) P w K mg base N qual scope f cd A outer s0 H0 E).stack, ∀ b ∈ [C], env.frame ≠ some b := fun env he b hb z => by
  rw [List.mem_singleton.mp hb] at z
  obtain ⟨L, o, e1, e2⟩ := PyProof.Rows.funFrames_in I.stack env he
  rw [z] at e1
  cases e1
  exact absurd (Nat.lt_of_lt_of_le (Heap.lt_size e2) hC) (Nat.lt_irrefl _)
 have ff5 := (PySem.W.funFrames_hideAll (PySem.W.funFrames_base sub held4.2.2.1) frC).of_keeps (h' := h5) fun b o e _ => ⟨o, (hs.2 b fun z => by rw [z, PySem.W.hideAll_none [C] (by simp)] at e; cases e).trans (PySem.W.of_hideAll _ e), rfl⟩
 have tr5 : h5.TracedAtW (PySem.W.hideAll B [C]) ea cls a0 (rawInt (Au (CXE P w) P w K mg base N qual scope f cd A outer s0 H0 E).env.locals) := by
  obtain ⟨ob, us, tb, ot, ws, g1, g2, g3, g4, g5, g6, g7, g8, g9⟩ := held4.2.2.2
  obtain ⟨oC, es, ep, k1, k2, _⟩ := id hn4
  have nf : ∀ b o vs, h4.get? b = some o → o.data = .fields vs → b ≠ C := fun b o vs e d z => by
   have k1' : h4.get? C = some oC := k1
   rw [z, k1'] at e
   cases e
   rw [k2] at d
   cases d
  refine ⟨ob, us, tb, ot, ws, (hs.2 _ (nf _ _ _ g1 g3)).trans g1, g2, g3, g4, ?_, g6, (hs.2 _ (nf _ _ _ g7 g8)).trans g7, g8, g9⟩
  cases q : (PySem.W.hideAll B [C]).get? tb with
  | none => rfl
  | some o =>
   have := sub _ _ q
   rw [g5] at this
   cases this
 refine MO st5 ff5 tr5 fun h6 fl' k1 k2 k3 k4 => ?_
 refine K8 (A := A.deeper (envOfC qual scope s0.heap.objs.size f cd)) (env := envOfC qual scope s0.heap.objs.size f cd) (outer := outer) I.ok.frames rfl k1 nb5 k2 k3 fun h7 fl7 up7 => ?_
 have I7 := Inv.fly (h' := h7) I JX5 st5 fl7.1 (k4.trans up7) c1' c2'
 refine ⟨ea, cls, H', rfl, I7.os, I7.bare, I7.base, I7.hok, ⟨_, a0, fl7, fun b o e hb => ?_, c2'⟩, hE⟩
 obtain ⟨o1, a1⟩ := I.base.there b o e (fun z => absurd (show b ∈ ([] : List Addr) from z) (by simp))
 exact c1' b o1 a1 (I.notStack e hb)
end
section
variable {X : Cx} {pins : List (Addr × Obj)} {σ : St} {H : Hp} {s : Shared} {sc : Scope} {x : Str} {caps : List Str} {ix : List Nat}
theorem Jx {elt iter : Expr} {px pos : Pos} {ifs : List Expr} {te : TE} {tc : TT} {J : It} {fp : List Addr} {it : Addr} {tn : Nat → Heap → Prop} {QH : Addr → Hp → Prop} {RR : Value → Addr → Result → Shared → Prop} {E : Value → Shared → Prop}
  (hc : X.calm = true) (S : Aq X sc x caps ix) (Nn : Value → St → Hp → Prop) (he : ∀ C s H ex pn xe, HF ((AZ X sc (AY X caps) (x :: caps) C s H ex).trying pn xe) Nn → PE ((AZ X sc (AY X caps) (x :: caps) C s H ex).trying pn xe) elt te) (ht : ∀ C s H ex, PTs (AZ X sc (AY X caps) (x :: caps) C s H ex) ifs tc)
  (I : Inv X pins σ H s) (T : K4 X.prog X.w X.K (.Name x px) J fp it tn) (st : tn 0 s.heap) (hf : ∀ b ∈ fp, Ez X pins H b) (h : ∀ D, H D = none → CW te tc (Bv σ ix) J D H (QH D))
  (hRR : ∀ D C (ps : List (Addr × Obj)) σ' H' s', s.heap.objs.size ≤ C → Inv (AZ X sc (AY X caps) (x :: caps) C s H fp) ps σ' H' s' → QH D H' → RR (.ref D) C (.ok .next) s')
  (hXE : ∀ D C pins' σ' H1 s1 e s', s.heap.objs.size ≤ C → Inv (AZ X sc (AY X caps) (x :: caps) C s H fp) pins' σ' H1 s1 → (∀ b ∈ fp, ∃ o, s1.heap.get? b = some o) → CXE X.prog X.w X.stack H1 s1 (fun cls _ H' => Nn cls σ' H') e s' →
   notedBy (model X.prog X.w) X.A (compEnvC sc (AY X caps) C X.env) (fun e s' => RR (.ref D) C (.error e) s') e s') :
  wpAny (model X.prog X.w) X.A (newList []) (fun acc s₃ => wpAny (model X.prog X.w) X.A (newFunctionEnv sc X.env.globals (AY X caps) [] X.env.qual none .none (some X.env)) (fun cenv s₄ =>
   codeAny (model X.prog X.w) X.A (.compStart (.ListComp elt [⟨.Name x px, iter, ifs, 0⟩] sc pos) 0 (.ref it) acc { cenv with scope := relabel sc X.env }) (RR acc cenv.locals) s₄) E s₃) E s := by
 refine wpAny_newObj_type (wpAny_newFunctionEnv S.nocell (by intro y hy; simp at hy) (fun h₁ hns₁ hsb₁ => ?_) S.kind)
 dsimp only at hns₁ hsb₁ ⊢
 generalize hH2 : s.heap.push { cls := .type "list", dict := none, data := .seq ([] : List Value).toArray } = H2 at hns₁ hsb₁ ⊢
 have hC : H2.objs.size = s.heap.objs.size + 1 := by rw [← hH2, Heap.size_push]
 have hDC : s.heap.objs.size ≠ H2.objs.size := by rw [hC]; exact Nat.ne_of_lt (Nat.lt_succ_self _)
 have hCle : s.heap.objs.size ≤ H2.objs.size := by rw [hC]; exact Nat.le_succ _
 have below : ∀ b, b < s.heap.objs.size → b ≠ H2.objs.size := fun b hb => by rw [hC]; exact Nat.ne_of_lt (Nat.lt_succ_of_lt hb)
 have old : ∀ b o, s.heap.get? b = some o → h₁.get? b = some o := fun b o e => hsb₁.extBut b o (below b (Heap.lt_size e)) (Heap.get?_push_of_some _ (hH2 ▸ Heap.get?_push_of_some _ e))
 have hacc : h₁.get? s.heap.objs.size = some { cls := .type "list", data := .seq #[] 0 } := hsb₁.extBut _ _ hDC (Heap.get?_push_of_some _ (hH2 ▸ Heap.get?_push_size _ rfl))
 have hb : ∀ b ∈ fp, b < s.heap.objs.size := fun b hbf => by obtain ⟨o, e, _⟩ := T.obj _ _ st b hbf; exact Heap.lt_size e
 have I1 := S.start (tk := s.toks + ([] : List (Str × Value)).length) I hf hb (Nat.le_refl _) hCle hDC old hacc hns₁
 obtain ⟨W, ⟨m0, w0⟩, turn⟩ := h _ (I.hok.fresh (Nat.le_refl _))
 have stat : ∀ {H' : Hp}, (∀ b ∈ fp, H' b = none) → ∀ b ∈ fp, Ez (AZ X sc (AY X caps) (x :: caps) H2.objs.size s H fp) [] H' b := fun {H'} hn b hbf =>
  ⟨hn b hbf, (I1.ok.exf b hbf).1, I1.ok.exfs b hbf, .inl hbf, (I1.ok.exf b hbf).2, fun p hp => absurd (show p ∈ ([] : List (Addr × Obj)) from hp) (by simp)⟩
 have st1 : tn 0 h₁ := T.keep _ _ _ st fun b hbf o e => old b o e
 have fr1 : ∀ b ∈ fp, upd H s.heap.objs.size (.lst []) b = none := fun b hbf => by
  rw [AI (Nat.ne_of_lt (hb b hbf))]; exact (hf b hbf).1
 have loop : ∀ s₃ : Shared, s₃ = { s with heap := h₁, toks := s.toks + ([] : List (Str × Value)).length } →
   codeAny (model X.prog X.w) X.A (.compLoop (.ListComp elt [⟨.Name x px, iter, ifs, 0⟩] sc pos) 0 (.ref it) (.ref s.heap.objs.size) (compEnvC sc (AY X caps) H2.objs.size X.env))
    (RR (.ref s.heap.objs.size) H2.objs.size) s₃ := by
  rintro s₃ rfl
  refine F4 (fun n s' => ∃ i ys H' ov, Inv (AZ X sc (AY X caps) (x :: caps) H2.objs.size s H fp) [] (ov :: Bv σ ix) H' s' ∧ tn i s'.heap ∧ (∀ b ∈ fp, H' b = none) ∧ W i n ys H') rfl ?_ m0 ⟨0, [], _, none, I1, st1, fr1, w0⟩
  rintro n s3 ⟨i, ys, H3, ov, I3, st3, fr3, w3⟩
  rcases turn i n ys H3 w3 with ⟨stop, q⟩ | ⟨go, step⟩
  ·refine A3 (thn (T.done (AZ X sc (AY X caps) (x :: caps) H2.objs.size s H fp) rfl rfl rfl hc i [] s3 _ H3 _ I3 (stat fr3) st3 stop) fun r s4 zq => ?_)
   obtain ⟨hr, I4⟩ := zq
   subst hr
   exact hRR _ _ _ _ _ _ hCle I4 q
  ·refine A3 (thn (T.item (AZ X sc (AY X caps) (x :: caps) H2.objs.size s H fp) rfl rfl rfl hc i [] s3 _ H3 _ I3 (stat fr3) st3 go) fun r s4 zq => ?_)
   obtain ⟨u, hr, h4⟩ := zq
   subst hr
   refine A3 (thn h4 fun _ s5 zq => ?_)
   obtain ⟨v, H5, I5, r5, y5, st5, fr5⟩ := zq
   have I5' := I5.pinned (stat fr5) (T.obj _ _ st5)
   have hg : PG (AZ X sc (AY X caps) (x :: caps) H2.objs.size s H fp) (.Name x px) (B4 0) := Je (i := 0) S.nd rfl (.inl (lookup_relabel_local S.hx)) (.inr (lookup_relabel_local S.hx))
   have again : ∀ {s7 : Shared} {H7 : Hp} {ys' : List V}, Inv (AZ X sc (AY X caps) (x :: caps) H2.objs.size s H fp) ([] ++ Ep fp s5.heap) (some v :: Bv σ ix) H7 s7 → (∃ m', m' < n ∧ W (i + 1) m' ys' H7) →
     ∃ m, m < n ∧ ∃ i ys H' ov, Inv (AZ X sc (AY X caps) (x :: caps) H2.objs.size s H fp) [] (ov :: Bv σ ix) H' s7 ∧ tn i s7.heap ∧ (∀ b ∈ fp, H' b = none) ∧ W i m ys H' := fun {s7 H7 ys'} I7 ⟨m', hm, w7⟩ => by
    refine ⟨m', hm, i + 1, ys', H7, some v, I7.unpinned, T.keep _ _ _ st5 fun b hb o e => (I7.pin (b, o) (List.mem_append_right _ (List.mem_append_right _ (BZ hb e)))).1, fun b hb => ?_, w7⟩
    obtain ⟨o, e, d⟩ := T.obj _ _ st5 b hb
    exact (I7.pin (b, o) (List.mem_append_right _ (List.mem_append_right _ (BZ hb e)))).2.1
   refine A3 (thn (hg _ s5 _ H5 v u (fun σ' H' => σ' = some v :: Bv σ ix ∧ H' = H5) I5' r5 ⟨rfl, rfl⟩) fun _ s6 zq => ?_)
   obtain ⟨σ6, H6, I6, e6, e6'⟩ := zq
   subst e6 e6'
   refine A3 (thn (ht _ _ _ _ _ s6 _ H6 _ I6 (step v H6 y5)) fun ok s7 zq => ?_)
   obtain ⟨H7, I7, q7⟩ := zq
   cases ok with
   | false => exact again I7 (by simpa using q7)
   | true =>
    rw [if_pos rfl] at q7
    rw [if_pos rfl]
    have pass : HF ((AZ X sc (AY X caps) (x :: caps) H2.objs.size s H fp).trying ((AZ X sc (AY X caps) (x :: caps) H2.objs.size s H fp).pn ++ ([] ++ Ep fp s5.heap)) (notedBy (model X.prog X.w) X.A (compEnvC sc (AY X caps) H2.objs.size X.env) (fun e s' => RR (.ref s.heap.objs.size) H2.objs.size (.error e) s'))) Nn := fun pins' σ' Ha sa e sb I' hx => by
     have Ia := I'.tried I7.ok
     refine hXE _ _ _ _ _ _ _ _ hCle Ia (fun b hb => ?_) hx
     obtain ⟨o, e, d⟩ := T.obj _ _ st5 b hb
     exact ⟨o, (Ia.pin (b, o) (List.mem_append_right _ (List.mem_append_right _ (BZ hb e)))).1⟩
    refine wpAny_mono (he _ _ _ _ _ _ pass [] s7 _ H7 _ (I7.trying _) q7) (fun yv s8 h8 => ?_) fun e s8 h8 => h8
    obtain ⟨y, H8, I8', r8, hD8, hz8, q8⟩ := h8
    have I8 := I8'.tried I7.ok
    refine A3 (thn (Fs _ s8 _ H8 (.ref s.heap.objs.size) [y] _ [yv] (fun _ H9 => H9 = upd H8 s.heap.objs.size (.lst (ys ++ [y]))) I8 rfl (.cons r8 .nil) ⟨_, _, _, rfl, rfl, hD8, hz8, rfl⟩) fun _ s9 zq => ?_)
    obtain ⟨_, H9, I9, _, e9⟩ := zq
    subst e9
    exact again I9 q8
 exact codeAny_compStart_list (loop _ rfl) (T.self _ 0 _ _ _ st1 (loop _ rfl))
end
section
variable {P : Program} {w : World} {K : PySem.W.Frag} {mg : Str → Option Value} {base : Heap} {N : List Str} {qual : Str} {scope : Scope} {f : Addr} {cd : Value} {A : Around} {outer : List Env} {s0 : Shared} {H0 : Hp} {E : XK}
 {sc : Scope} {x : Str} {caps : List Str} {ix : List Nat}
theorem M9 {elt iter : Expr} {px pos : Pos} {ifs : List Expr} {wi : TI} {te : TE} {tc : TT} (hc : (Au (CXE P w) P w K mg base N qual scope f cd A outer s0 H0 E).calm = true) (S : Aq (Au (CXE P w) P w K mg base N qual scope f cd A outer s0 H0 E) sc x caps ix) (hi : PI (Au (CXE P w) P w K mg base N qual scope f cd A outer s0 H0 E) (.Name x px) iter wi)
  (he : ∀ C s H ex pn xe, HF ((AZ (Au (CXE P w) P w K mg base N qual scope f cd A outer s0 H0 E) sc (AY (Au (CXE P w) P w K mg base N qual scope f cd A outer s0 H0 E) caps) (x :: caps) C s H ex).trying pn xe) (fun cls _ H' => E cls none H') → PE ((AZ (Au (CXE P w) P w K mg base N qual scope f cd A outer s0 H0 E) sc (AY (Au (CXE P w) P w K mg base N qual scope f cd A outer s0 H0 E) caps) (x :: caps) C s H ex).trying pn xe) elt te)
  (ht : ∀ C s H ex, PTs (AZ (Au (CXE P w) P w K mg base N qual scope f cd A outer s0 H0 E) sc (AY (Au (CXE P w) P w K mg base N qual scope f cd A outer s0 H0 E) caps) (x :: caps) C s H ex) ifs tc)
  (hs : ∀ x, foldedSetIterable iter (Au (CXE P w) P w K mg base N qual scope f cd A outer s0 H0 E).env x = pure x := by intro _; rfl) : PE (Au (CXE P w) P w K mg base N qual scope f cd A outer s0 H0 E) (.ListComp elt [⟨.Name x px, iter, ifs, 0⟩] sc pos) (DY wi te tc ix) := by
 intro pins s σ H Q I h
 rw [eval_ListComp]
 refine wpAny_comprehension_free (use := none) rfl hs S.clos S.kind S.names (thn (hi pins s σ H _ I h) fun v s1 h1 => thn h1 fun itv s2 h2 => ?_)
 obtain ⟨it, fp, tn, J, H2, e, I2, T, st2, f2, q⟩ := h2
 subst e
 refine Jx (RR := fun acc C => compPost (model P w) (Au (CXE P w) P w K mg base N qual scope f cd A outer s0 H0 E).A (Au (CXE P w) P w K mg base N qual scope f cd A outer s0 H0 E).xe none (EP (Au (CXE P w) P w K mg base N qual scope f cd A outer s0 H0 E) pins σ Q) acc C) (QH := fun D H' => Q (.ref D) H') hc S (fun cls _ H' => E cls none H') he ht I2 T st2 f2 q ?_ fun D C pins' σ' H1 s1 e s' hC I1 hfp hx => LQ S I2 f2 hC I1 hfp hx
 intro D C ps σ' H' s' hC I' hq
 obtain ⟨m, hn, _⟩ := I'.loc
 exact ⟨m, hn, fun h'' hs => ⟨.ref D, H', S.back I2 f2 hC I' hs, rfl, hq⟩⟩
end
section
variable {X : Cx}
end
end L2
namespace TG
open PySem L2
end TG
namespace LM
open PySem PySem.Spec PySem.Calls PyProof.Rows PySem.W L2
section
variable {prog : Program} {w : World} {A : Around} {E : Value → Shared → Prop} {s : Shared}
end
section
variable {X : Cx} {pins : List (Addr × Obj)} {σ : L2.St} {H : Hp} {s : Shared} {h' : Heap}
end
section
variable {X : Cx}
end
end LM
namespace TG
open PySem L2
end TG
namespace L2
open PySem PySem.Spec PyProof.Rows
section
variable {X : Cx}
end
end L2
namespace TG
open PySem L2
section
variable {T : Addr} {H H' : Hp} {pos : Pos} {qual : Str}
end
end TG
namespace L2
open PySem PySem.Spec PyProof.Rows
section
variable {X : Cx} {CX : CXT} {k n : Nat} {f C : Addr} {fd : FuncData} {ps N : List Str} {sp : Sp} {E : XK} {x : Str} {p pos apos : Pos} {e : Expr} {es : List Expr} {t : TA} {st : Stmt} {a b : Expr} {ta tb te : TE} {r : R2}
theorem pcl (d : D X.K X.mg x st ps f fd) (F : Ag X.prog X.w X.K X.mg X.base CX k f fd ps sp) (hr : BY n X.A) (hx : Cy CX X E) (ha : PA X (e :: es) t) (hk : k ≤ n := by decide) (hg : Gl X x := by rfl) (hdb : (x == ("__debug__" : Str)) = false := by decide)
  (he : starEach (e :: es) X.env = (false, eval e X.env) :: starEach es X.env := by rfl) (hpl : (backTo pos (starEach es X.env)).any (·.1) = false := by rfl) : PE X (.Call (.Name x p) (e :: es) [] pos) (Dl sp [] E t) := Os F (hr.mono hk) hg d.m d.F.kp d.b .nil hx ha hdb he hpl
theorem pst (i : Nat) {sc : Scope} {pos' : Pos} (S : AN X.N ps sc) (he : PE X e te) (hi : X.N[i]? = some x := by rfl) (hx : Loc X.env.scope x := by first | exact Or.inl rfl | exact Or.inr rfl) (hs : swapsWith e (some (.Name x pos')) pos.line X.env = pure false := by rfl)
  (hf : X.fn x = true ∨ X.env.scope.names.lookup x = some .local := by first | exact .inl rfl | exact .inr rfl | assumption) : PS X (.Assign [.Name x pos'] e pos) (IM te (B4 i)) := Rk S.nd hi hx he hs hf
theorem pgn (i : Nat) {sc : Scope} (S : AN X.N ps sc) (hi : X.N[i]? = some x := by rfl) (hx : Loc X.env.scope x := by first | exact Or.inl rfl | exact Or.inr rfl) (hf : X.fn x = true ∨ X.env.scope.names.lookup x = some .local := by first | exact .inl rfl | exact .inr rfl | assumption) : PG X (.Name x pos) (B4 i) := Je S.nd hi hx hf
theorem pxi (hr : IxR X r) (ha : PE X a ta) (hb : PE X b tb) (hs : Lj b := by exact fun _ _ => rfl) : PE X (.Subscript a b pos) (tOp r ta tb) := NY hr ha hb hs
theorem pec {op : CmpOp} (ho : OpR X (compareOp op) r) (ha : PE X a ta) (hb : PE X b tb) (hm : behindInMarks op b = false := by exact NB _) : PE X (.Compare a [op] [b] pos) (tOp r ta tb) := JW ho ha hb hm
theorem ptc {op : CmpOp} (ho : OpR X (compareOp op) r) (ha : PE X a ta) (hb : PE X b tb) (hm : behindInMarks op b = false := by exact NB _) : PT X (.Compare a [op] [b] pos) (D0 (tOp r ta tb)) := Jn ho ha hb hm
end
section
variable {X : Cx}
theorem ID : BJ X (.type "int") (fun xs H Q => ∃ x n, xs = [.str x] ∧ PySem.intText? x = some n ∧ x.length ≤ 640 ∧ Q (.int n) H) := by
 intro pins s σ H xs us Q I r h
 obtain ⟨x, n, rfl, hn, hl, q⟩ := h
 obtain ⟨u, rfl, t, rfl⟩ := vals1 r
 exact PySem.W.KIN.call_text hn hl ⟨.int n, H, I.tok _, ⟨_, rfl⟩, q⟩
noncomputable def Jr : V → List V → Hp → VK → Prop := fun x vs H Q => ∃ a b, x = .str a ∧ vs = [.str b] ∧ Q (.bl (decide (0 + b.length ≤ a.length) && Builtin.Str.subAt a b 0)) H
theorem Im : MtR X "str.startswith" Jr := by
 intro pins s σ H x vs v us Q I rx rv h
 obtain ⟨a, b, rfl, rfl, q⟩ := h
 obtain ⟨t, rfl⟩ := rx
 obtain ⟨u, rfl, t', rfl⟩ := vals1 rv
 refine call_meets F.slot_str_startswith (typeIs_str _ _ _) F.entry_str_startswith (F.args_str_startswith_2 _ _) (gives_str_startswith a b t t').meets ?_
 exact ⟨.bl _, H, I, rfl, q⟩
noncomputable def Sr : V → Option Int → Option Int → Hp → VK → Prop := fun x lo hi H Q => ∃ a, x = .str a ∧ a.length ≤ sizeLine ∧ Q (.str (Txt.slice a lo hi)) H
theorem S2 : SlR X Sr := by
 intro pins s σ H x v vl vu lo hi sl Q I rx hs pl pu h
 obtain ⟨a, rfl, hz, q⟩ := h
 obtain ⟨t, rfl⟩ := rx
 have part : ∀ {v : Value} {o : Option Int}, IsPart v o → ∃ z : Option (Int × Tok), v = partValue z ∧ z.map (·.1) = o := fun h => by
  cases h with
  | none => exact ⟨none, rfl, rfl⟩
  | int i t => exact ⟨some (i, t), rfl, rfl⟩
 obtain ⟨zl, rfl, el⟩ := part pl
 obtain ⟨zu, rfl, eu⟩ := part pu
 subst el eu
 refine ⟨"str", _, F.slot_str_getitem.lookup, typeIs_str _ _ _, wpAny_getItem_str_slice (l := zl) (u := zu) (st := none) hs rfl (post_val_or_str ⟨Nat.le_trans (Txt.slice_le a _ _) hz, fun t' k => ?_⟩)⟩
 exact ⟨.str _, H, I.tok _, ⟨_, rfl⟩, q⟩
end
noncomputable def sg1 (x : Str) (i : Nat) : V := .str ⟨#[x.cps.getD i 0]⟩
noncomputable def Its (x : Str) : It := ⟨fun i _ => i < x.cps.size, fun i H v H' => H' = H ∧ v = sg1 x i, fun i _ => x.cps.size ≤ i⟩
theorem NP {P : Program} {w : World} {K : PySem.W.Frag} {tg : Expr} (x : Str) (it : Addr) : K4 P w K tg (Its x) [it] it (fun i h => ∃ t, h.IsStrIter it "str_ascii_iterator" x t i) where
 mem := by simp
 obj := fun i h ⟨t, o, e, c, d⟩ b hb => by
  have z : b = it := by simpa using hb
  rw [z]
  exact ⟨o, e, fun v y => by rw [d] at y; cases y⟩
 keep := fun i h h' ⟨t, o, e, c, d⟩ k => ⟨t, o, k it (by simp) o e, c, d⟩
 item := by
  intro X hP hw hK hc i pins s σ H E I hf st hg
  subst hP hw hK
  obtain ⟨t, st⟩ := st
  have hg : i < x.cps.size := hg
  obtain ⟨f0, f1, f2, f3, f4, f5⟩ := hf it (by simp)
  have hx : x.cps[i]? = some (x.cps.getD i 0) := by rw [Array.getD_eq_getD_getElem?, Array.getElem?_eq_getElem hg]; rfl
  refine wpAny_pyNext_ascii_item st hx fun h2 st2 sb => ?_
  have I1 : Inv X pins σ H { s with heap := h2, toks := s.toks + 1 } := I.turned (fun b o hb e => (sb.2 b hb).trans e) f0 f1 f3 f4 f5
  obtain ⟨o, e, c, d⟩ := id st2
  exact ⟨_, rfl, Lh (s := { s with heap := h2, toks := s.toks + 1 }) e c d (by decide) ⟨sg1 x i, H, I1, ⟨_, rfl⟩, ⟨rfl, rfl⟩, ⟨t, st2⟩, fun b hb => (hf b hb).1⟩⟩
 done := by
  intro X hP hw hK hc i pins s σ H E I hf st hg
  subst hP hw hK
  obtain ⟨t, st⟩ := st
  have hg : x.cps.size ≤ i := hg
  obtain ⟨f0, f1, f2, f3, f4, f5⟩ := hf it (by simp)
  exact wpAny_pyNext_ascii_end (I.ok.hd hc) st (Array.getElem?_eq_none hg) fun h2 eb => ⟨rfl, I.turned (t' := s.toks) (fun b o hb e => eb b o hb e) f0 f1 f3 f4 f5⟩
 self := fun _ _ _ _ _ ⟨t, st⟩ h => wpAny_pyIter_striter_ascii st h
section
variable {X : Cx} {tg : Expr}
noncomputable def iStr (tl : TE) : TI := fun σ H R => tl σ H fun v H1 => ∃ x, v = .str x ∧ x.cps.all (· < 128) = true ∧ R (Its x) H1
theorem QV {l : Expr} {tl : TE} (hl : PE X l tl) : PI X tg l (iStr tl) := by
 intro pins s σ H R I h
 refine thn (hl pins s σ H _ I h) fun v s1 zq => ?_
 obtain ⟨y, H1, I1, r1, q1⟩ := zq
 obtain ⟨x, e, asc, q⟩ := q1
 subst e
 obtain ⟨t, rfl⟩ := r1
 refine wpAny_pyIter_ascii asc ?_
 refine ⟨s1.heap.objs.size, [s1.heap.objs.size], _, _, H1, rfl, I1.kept (t' := s1.toks) fun b o e => Heap.get?_push_of_some _ e, NP x _, ⟨t, _, Heap.get?_push_size _ rfl, rfl, rfl⟩, fun b hb => ?_, q⟩
 have e : b = s1.heap.objs.size := by simpa using hb
 rw [e]
 exact I1.fpOk (Nat.le_refl _) (I1.hok.fresh (Nat.le_refl _))
end
theorem Nm {te : TE} {caps : St} {x : Str} {D : Addr} {H1 : Hp} {Q : Hp → Prop} (Pv : Nat → List V → Hp → Prop) (h0 : Pv 0 [] (upd H1 D (.lst [])))
  (hs : ∀ i ys H, i < x.cps.size → ys.length = i → Pv i ys H → te (some (sg1 x i) :: caps) H (GF x.cps.size i ys D Pv))
  (hd : ∀ ys H, ys.length = x.cps.size → Pv x.cps.size ys H → Q H) : CW te CU caps (Its x) D H1 Q := by
 refine ⟨fun i m ys H => m = x.cps.size - i ∧ i ≤ x.cps.size ∧ ys.length = i ∧ Pv i ys H, ⟨_, rfl, Nat.zero_le _, rfl, h0⟩, ?_⟩
 rintro i m ys H ⟨rfl, hi, hl, p⟩
 by_cases hlt : i < x.cps.size
 ·refine .inr ⟨hlt, fun v H' y => ?_⟩
  obtain ⟨e1, e2⟩ := y
  subst e1 e2
  unfold CU
  dsimp only
  rw [if_pos rfl]
  exact hs i ys _ hlt hl p
 ·have e : i = x.cps.size := by lia
  subst e
  exact .inl ⟨Nat.le_refl _, hd ys H hl p⟩
noncomputable abbrev tx (l : List Nat) : Str := ⟨l.toArray⟩
theorem Az (a b : List Nat) : tx a ++ tx b = tx (a ++ b) := by
 show (⟨a.toArray ++ b.toArray⟩ : Str) = _
 rw [List.append_toArray]
theorem AS (l : List Nat) : (tx l).length = l.length := List.size_toArray ..
theorem Jl {a b : List Nat} : tx a = tx b ↔ a = b := ⟨fun h => by injection h with h; injection h, fun h => by rw [h]⟩
theorem Nr (x : Str) : x = tx x.cps.toList := by cases x; rfl
theorem L9 (x : Str) {a b : Nat} (h : a ≤ b) (hb : b ≤ x.length) : Txt.slice x (some (a : Int)) (some (b : Int)) = tx ((x.cps.toList.drop a).take (b - a)) := StrLaws.sliceText_nat x h hb
theorem sl_ix {lo : Option Int} {n i : Nat} : Builtin.Str.strSliceIndices lo none 1 n = Builtin.Str.strSliceIndices lo (some (n : Int)) 1 n := by
 unfold Builtin.Str.strSliceIndices
 dsimp only
 simp only [if_pos (show (1 : Int) > 0 by decide)]
 rw [if_neg (by lia), show max (0 : Int) (min (n : Int) n) = n by lia]
theorem PY {hi : Option Int} {n j : Nat} : Builtin.Str.strSliceIndices (some (j : Int)) hi 1 n = Builtin.Str.strSliceIndices (some ((min j n : Nat) : Int)) hi 1 n := by
 unfold Builtin.Str.strSliceIndices
 dsimp only
 simp only [if_pos (show (1 : Int) > 0 by decide)]
 rw [if_neg (show ¬ (j : Int) < 0 by lia), if_neg (show ¬ ((min j n : Nat) : Int) < 0 by lia), show max (0 : Int) (min ((min j n : Nat) : Int) n) = max (0 : Int) (min (j : Int) n) by lia]
theorem LJ (l : List Nat) (i : Nat) : Txt.slice (tx l) (some (i : Int)) none = tx (l.drop i) := by
 have h : Txt.slice (tx l) (some (i : Int)) none = Txt.slice (tx l) (some ((min i (tx l).length : Nat) : Int)) (some (((tx l).length : Nat) : Int)) := by
  unfold Txt.slice
  rw [sl_ix (i := 0), PY]
 rw [h, L9 _ (Nat.min_le_right ..) (Nat.le_refl _), AS]
 refine Jl.mpr ?_
 show List.take (l.length - min i l.length) (List.drop (min i l.length) l) = _
 by_cases hi : i ≤ l.length
 ·rw [Nat.min_eq_left hi, List.take_of_length_le (by rw [List.length_drop]; lia)]
 ·rw [Nat.min_eq_right (by lia), List.drop_eq_nil_of_le (Nat.le_refl _), List.drop_eq_nil_of_le (by lia), List.take_nil]
noncomputable def Bt (n : Nat) : List Nat := (Nat.toDigits 10 n).map Char.toNat
noncomputable def dec (i : Int) : List Nat := if i < 0 then 45 :: Bt i.natAbs else Bt i.natAbs
theorem O0 (n : Nat) : Str.ofString (toString n) = tx (Bt n) := by
 show Str.ofString (Nat.repr n) = _
 rw [Nat.repr_eq_ofList_toDigits, W.Fast.ofString_ofList]
 rfl
theorem A6 (i : Int) : Str.ofString (toString i) = tx (dec i) := by
 cases i with
 | ofNat n =>
  show Str.ofString (toString n) = _
  rw [O0]
  rfl
 | negSucc n =>
  show Str.ofString ("-" ++ toString (n + 1)) = _
  have : ("-" ++ toString (n + 1) : String) = String.ofList ('-' :: Nat.toDigits 10 (n + 1)) := by
   show "-" ++ Nat.repr (n + 1) = _
   rw [Nat.repr_eq_ofList_toDigits, ← String.ofList_append]
   rfl
  have e : dec (.negSucc n) = 45 :: Bt (n + 1) := if_pos (Int.negSucc_lt_zero n)
  rw [this, W.Fast.ofString_ofList, e]
  rfl
theorem Eu {n : Nat} (h : n < 10) : Bt n = [48 + n] := by
 unfold Bt
 rw [Nat.toDigits_of_lt_base h, List.map_cons, Nat.toNat_digitChar_of_lt_ten h]
 rfl
theorem FZ {n : Nat} (h : 10 ≤ n) : Bt n = Bt (n / 10) ++ [48 + n % 10] := by
 unfold Bt
 rw [Nat.toDigits_of_base_le (by decide) h, List.map_append, List.map_cons, Nat.toNat_digitChar_of_lt_ten (Nat.mod_lt _ (by decide))]
 rfl
theorem Bu (n : Nat) : NumText.AllDigits (Bt n) := by
 induction n using Nat.strongRecOn with
 | _ n ih =>
  by_cases h : n < 10
  ·rw [Eu h]
   intro c hc
   rw [List.mem_singleton.mp hc]
   lia
  ·rw [FZ (by lia)]
   intro c hc
   rcases List.mem_append.mp hc with z | z
   ·exact ih (n / 10) (by lia) c z
   ·rw [List.mem_singleton.mp z]
    lia
theorem FN (n : Nat) : NumText.digitsVal (Bt n) = n := by
 induction n using Nat.strongRecOn with
 | _ n ih =>
  by_cases h : n < 10
  ·rw [Eu h]
   show 0 * 10 + (48 + n - 48) = n
   lia
  ·rw [FZ (by lia)]
   have := ih (n / 10) (by lia)
   unfold NumText.digitsVal at this ⊢
   rw [List.foldl_append, this]
   show n / 10 * 10 + (48 + n % 10 - 48) = n
   lia
theorem IY {n : Nat} (h : n ≠ 0) : ∃ c r, Bt n = c :: r ∧ 49 ≤ c ∧ c ≤ 57 := by
 induction n using Nat.strongRecOn with
 | _ n ih =>
  by_cases h1 : n < 10
  ·exact ⟨_, _, Eu h1, by lia, by lia⟩
  ·obtain ⟨c, r, e, h2, h3⟩ := ih (n / 10) (by lia) (by lia)
   exact ⟨c, r ++ [48 + n % 10], by rw [FZ (by lia), e]; rfl, h2, h3⟩
theorem HJ {n k : Nat} (hk : 0 < k) : (Bt n).length ≤ k ↔ n < 10 ^ k := by
 unfold Bt
 rw [List.length_map]
 exact Nat.length_toDigits_le_iff (by decide) hk
theorem Ij (i : Int) : ∀ c ∈ dec i, c = 45 ∨ 48 ≤ c ∧ c ≤ 57 := fun c hc => by
 unfold dec at hc
 split at hc
 ·rcases List.mem_cons.mp hc with z | z
  ·exact .inl z
  ·exact .inr (Bu _ c z)
 ·exact .inr (Bu _ c hc)
theorem OT {i : Int} {k : Nat} (hk : 0 < k) (h : i.natAbs < 10 ^ k) : (dec i).length ≤ k + 1 := by
 have := (HJ hk).mpr h
 unfold dec
 split
 ·rw [List.length_cons]; lia
 ·lia
theorem Kf {a b : Nat} (h : Bt a = Bt b) : a = b := by rw [← FN a, h, FN]
theorem Lk {a b : Int} (h : dec a = dec b) : a = b := by
 have nm : ∀ n (r : List Nat), Bt n ≠ 45 :: r := fun n r z => by
  have := Bu n 45 (by rw [z]; exact List.mem_cons_self)
  lia
 unfold dec at h
 by_cases ha : a < 0
 ·rw [if_pos ha] at h
  by_cases hb : b < 0
  ·rw [if_pos hb] at h
   have := Kf (List.cons.inj h).2
   lia
  ·rw [if_neg hb] at h
   exact absurd h.symm (nm _ _)
 ·rw [if_neg ha] at h
  by_cases hb : b < 0
  ·rw [if_pos hb] at h
   exact absurd h (nm _ _)
  ·rw [if_neg hb] at h
   have := Kf h
   lia
noncomputable def Gs (l : List Nat) : Bool := l.head? == some 45
noncomputable def bare (l : List Nat) : List Nat := if Gs l then l.drop 1 else l
noncomputable def rdN (l : List Nat) : Option Int :=
 if l = [48] then some 0
 else if 1 ≤ (bare l).length ∧ (bare l).length ≤ 9 ∧ (∀ c ∈ bare l, 48 ≤ c ∧ c ≤ 57) ∧ (bare l).head? ≠ some 48 then some (if Gs l then -(NumText.digitsVal (bare l) : Int) else NumText.digitsVal (bare l))
 else none
theorem GW {i : Int} (h : i.natAbs ≤ 999999999) : rdN (dec i) = some i := by
 unfold rdN
 by_cases h0 : i = 0
 ·rw [h0]; rfl
 have hn : i.natAbs ≠ 0 := by lia
 obtain ⟨c, r, e, h1, h2⟩ := IY hn
 have hl : (Bt i.natAbs).length ≤ 9 := (HJ (by decide)).mpr (by lia)
 have hd : dec i ≠ [48] := fun z => by
  have : dec i = dec 0 := z
  exact h0 (Lk this)
 rw [if_neg hd]
 by_cases hi : i < 0
 ·have ed : dec i = 45 :: Bt i.natAbs := if_pos hi
  have eb : bare (dec i) = Bt i.natAbs := by rw [ed]; rfl
  have en : Gs (dec i) = true := by rw [ed]; rfl
  rw [eb, if_pos ⟨by rw [e]; simp, hl, Bu _, by rw [e]; simp; lia⟩, if_pos en, FN]
  congr 1
  lia
 ·have ed : dec i = Bt i.natAbs := if_neg hi
  have en : Gs (dec i) = false := by
   rw [ed, e]
   show (some c == some 45) = false
   simp
   lia
  have eb : bare (dec i) = Bt i.natAbs := by unfold bare; rw [en, if_neg (by decide), ed]
  rw [eb, if_pos ⟨by rw [e]; simp, hl, Bu _, by rw [e]; simp; lia⟩, en, if_neg (by decide), FN]
  congr 1
  lia
theorem GX {i : Int} (h : 999999999 < i.natAbs) : rdN (dec i) = none := by
 unfold rdN
 have hn : i.natAbs ≠ 0 := by lia
 obtain ⟨c, r, e, h1, h2⟩ := IY hn
 have hl : ¬ (Bt i.natAbs).length ≤ 9 := fun z => by
  have := (HJ (by decide)).mp z
  lia
 have hd : dec i ≠ [48] := fun z => by
  have : dec i = dec 0 := z
  have := Lk this
  lia
 have eb : bare (dec i) = Bt i.natAbs := by
  by_cases hi : i < 0
  ·have ed : dec i = 45 :: Bt i.natAbs := if_pos hi
   rw [ed]; rfl
  ·have ed : dec i = Bt i.natAbs := if_neg hi
   have en : Gs (dec i) = false := by
    rw [ed, e]
    show (some c == some 45) = false
    simp
    lia
   unfold bare
   rw [en, if_neg (by decide), ed]
 rw [if_neg hd, eb, if_neg (fun z => hl z.2.1)]
theorem Gf (l : List Nat) (c : Nat) : (decide (0 + (tx [c]).length ≤ (tx l).length) && Builtin.Str.subAt (tx l) (tx [c]) 0) = (l.head? == some c) := by
 cases l with
 | nil => rfl
 | cons a r =>
  have h : Builtin.Str.subAt (tx (a :: r)) (tx [c]) 0 = (a == c) := by
   unfold Builtin.Str.subAt
   have e : ((tx (a :: r)).cps.extract 0 (0 + (tx [c]).length)) = #[a] := by
    apply Array.toList_inj.mp
    rw [Array.toList_extract]
    rfl
   rw [e]
   by_cases z : a = c
   ·subst z; simp
   ·rw [show (a == c) = false by simpa using z]
    simpa using z
  rw [h, decide_eq_true (by rw [AS, AS]; simp), Bool.true_and]
  show (a == c) = (some a == some c)
  simp
theorem Qb (l : List Nat) (c : Nat) : (!(Builtin.Str.occurrences (tx l) (tx [c]) 0 (tx l).length 1).isEmpty) = decide (c ∈ l) := StrLaws.found_one (tx l) c
noncomputable def Bw (c : Nat) : List Nat → List (List Nat)
 | [] => [[]]
 | a :: r => if a = c then [] :: Bw c r else match Bw c r with
  | [] => [[a]]
  | p :: ps => (a :: p) :: ps
noncomputable def BU (s : List Nat) : List (List Nat) → List Nat
 | [] => []
 | [y] => y
 | y :: z :: ys => y ++ (s ++ BU s (z :: ys))
theorem BV {s y : List Nat} {ys : List (List Nat)} (h : ys ≠ []) : BU s (y :: ys) = y ++ (s ++ BU s ys) := by
 cases ys with
 | nil => exact absurd rfl h
 | cons z r => rfl
theorem EA {c : Nat} : ∀ {l : List Nat}, c ∉ l → Bw c l = [l]
 | [], _ => rfl
 | a :: r, h => by
  have ha : a ≠ c := fun z => h (by rw [z]; exact List.mem_cons_self)
  have hr := EA (l := r) fun z => h (List.mem_cons_of_mem _ z)
  unfold Bw
  rw [if_neg ha, hr]
theorem C5 {c : Nat} : ∀ {p l : List Nat}, c ∉ p → Bw c (p ++ c :: l) = p :: Bw c l
 | [], l, _ => by
  rw [List.nil_append]
  conv => lhs; unfold Bw
  rw [if_pos rfl]
 | a :: r, l, h => by
  have ha : a ≠ c := fun z => h (by rw [z]; exact List.mem_cons_self)
  have hr := C5 (p := r) (l := l) fun z => h (List.mem_cons_of_mem _ z)
  rw [List.cons_append]
  conv => lhs; unfold Bw
  rw [if_neg ha, hr]
theorem KI {c : Nat} : ∀ {ps : List (List Nat)}, ps ≠ [] → (∀ p ∈ ps, c ∉ p) → Bw c (BU [c] ps) = ps
 | [], h, _ => absurd rfl h
 | [p], _, f => EA (f p (by simp))
 | p :: q :: ps, _, f => by
  rw [BV (by simp), List.singleton_append, C5 (f p (by simp)), KI (by simp) fun x hx => f x (List.mem_cons_of_mem _ hx)]
theorem G0 (s : List Nat) : ∀ (ys : List Str) (a : Array Nat), (ys.foldl (fun acc p => acc ++ (tx s).cps ++ p.cps) a).toList = a.toList ++ (ys.map fun y => s ++ y.cps.toList).flatten
 | [], a => by simp
 | y :: ys, a => by
  rw [List.foldl_cons, G0 s ys]
  simp
theorem Lu (s : List Nat) (ys : List (List Nat)) : Txt.join (tx s) (ys.map tx) = tx (BU s ys) := by
 have aux : ∀ (y : List Nat) (ys : List (List Nat)), y ++ ((ys.map tx).map fun y => s ++ y.cps.toList).flatten = BU s (y :: ys) := by
  intro y ys
  induction ys generalizing y with
  | nil => simp [BU]
  | cons z ys ih =>
   rw [BV (by simp), ← ih z]
   simp
 cases ys with
 | nil => rfl
 | cons y ys =>
  show (⟨List.foldl (fun acc p => acc ++ (tx s).cps ++ p.cps) (tx y).cps (ys.map tx)⟩ : Str) = _
  refine (Nr _).trans (Jl.mpr ?_)
  show (List.foldl (fun acc p => acc ++ (tx s).cps ++ p.cps) (tx y).cps (ys.map tx)).toList = _
  rw [G0]
  exact aux y ys
theorem Nx (c : Nat) (l : List Nat) : Txt.split (tx l) (tx [c]) = (Bw c l).map tx := by
 have h1 := StrLaws.join_split (tx l) (tx [c])
 have h2 := fun p => StrLaws.split_free (tx l) c p
 have hne : Txt.split (tx l) (tx [c]) ≠ [] := by
  unfold Txt.split
  split
  ·simp
  ·split
   ·simp
   ·intro z
    have := PyProof.Rows.len_partsBetween (tx l) (Builtin.Str.occurrences (tx l) (tx [c]) 0 (tx l).length ((tx l).length + 1)) (tx [c]).length
    rw [z] at this
    simp at this
 generalize Txt.split (tx l) (tx [c]) = ps at *
 have e : ps = (ps.map fun p => p.cps.toList).map tx := by
  rw [List.map_map]
  conv => lhs; rw [← List.map_id ps]
  refine List.map_congr_left fun p _ => ?_
  exact Nr p
 have h3 : BU [c] (ps.map fun p => p.cps.toList) = l := by
  have := h1
  rw [e] at this
  rw [show Str.join (tx [c]) ((ps.map fun p => p.cps.toList).map tx) = Txt.join (tx [c]) ((ps.map fun p => p.cps.toList).map tx) from (StrLaws.glued_eq_join ..).symm, Lu] at this
  exact Jl.mp this
 rw [e, ← h3, KI]
 ·simpa using hne
 ·intro p hp
  obtain ⟨x, hx, rfl⟩ := List.mem_map.mp hp
  exact h2 x hx
section
variable {X : Cx}
noncomputable abbrev tvs (ys : List (List Nat)) : List V := ys.map fun y => V.str (tx y)
theorem Jy : ∀ {ys : List (List Nat)} {us : List Value}, AX (tvs ys) us → PyProof.Rows.StrsAre us (ys.map tx)
 | [], _, h => by cases h; exact .nil
 | y :: ys, _, h => by
  cases h with
  | cons r h =>
   obtain ⟨t, rfl⟩ := r
   exact .cons _ t (Jy h)
noncomputable def Go (K : PySem.W.Frag) : V → List V → Hp → VK → Prop := fun x vs H Q => ∃ s l ys, x = .str (tx s) ∧ vs = [.ref l] ∧ SqL K H l (tvs ys) ∧ (ys.map List.length).sum + ys.length * s.length ≤ 16777216 ∧ Q (.str (tx (BU s ys))) H
theorem GU : MtR X "str.join" (Go X.K) := by
 intro pins s σ H x vs v us Q I rx rv h
 obtain ⟨sp, l, ys, rfl, rfl, hl, hz, q⟩ := h
 obtain ⟨t, rfl⟩ := rx
 obtain ⟨u, rfl, r1⟩ := vals1 rv
 cases r1
 obtain ⟨i1, r1, t1, _⟩ := I.list hl
 refine PyProof.Rows.join_list t1.isList (by simpa using Jy r1) ?_ fun t' k => ?_
 ·rw [List.map_map, List.length_map, AS, show ((fun x : Str => x.length) ∘ tx) = List.length from funext fun y => AS y]
  exact hz
 ·refine ⟨.str _, H, I.tok _, ⟨_, rfl⟩, ?_⟩
  rw [Lu]
  exact q
theorem IX : ∀ (k : Nat) (ys : List (List Nat)), AX (tvs ys) (strsFrom k (ys.map tx))
 | _, [] => .nil
 | k, y :: ys => .cons ⟨k, rfl⟩ (IX (k + 1) ys)
noncomputable def Ms : V → List V → Hp → VK → Prop := fun x vs H Q => ∃ l c, x = .str (tx l) ∧ vs = [.str (tx [c])] ∧ l.length < sizeLine ∧ ∀ p H', H p = none → AH H H' → H' p = some (.lst (tvs (Bw c l))) → Q (.ref p) H'
theorem J6 (c : Nat) : ∀ l : List Nat, (Bw c l).length ≤ l.length + 1
 | [] => by simp [Bw]
 | a :: r => by
  have := J6 c r
  unfold Bw
  split
  ·simp only [List.length_cons]; lia
  ·split
   ·simp
   ·rename_i p ps e
    rw [e] at this
    simp only [List.length_cons] at *
    lia
theorem Mq : MtR X "str.split" Ms := by
 intro pins s σ H x vs v us Q I rx rv h
 obtain ⟨l, c, rfl, rfl, hz, q⟩ := h
 obtain ⟨t, rfl⟩ := rx
 obtain ⟨u, rfl, t', rfl⟩ := vals1 rv
 have hf : H s.heap.objs.size = none := I.hok.fresh (Nat.le_refl _)
 have hcl := J6 c l
 have sp := Nx c l
 by_cases h1 : (decide ((tx l).length < (tx [c]).length) || decide (Builtin.Str.strKind (tx l) < Builtin.Str.strKind (tx [c]))) = true
 ·refine call_meets F.slot_str_split (typeIs_str _ _ _) F.entry_str_split (F.args_str_split_2 _ _) (meets_str_split_cannot_occur _ _ _ _ h1) ?_
  have e : [tx l] = (Bw c l).map tx := by rw [← sp]; unfold Txt.split; rw [if_pos h1]
  refine ⟨.ref s.heap.objs.size, upd H s.heap.objs.size (.lst (tvs (Bw c l))), I.laid (t' := s.toks) (fun b u e => Heap.get?_push_of_some _ e) (Nat.le_refl _) ⟨by rw [List.length_map]; lia, [Value.str (tx l) t], 0, ?_, Heap.get?_push_size _ rfl⟩, rfl, q _ _ hf (Ac hf) AG⟩
  have e2 : Bw c l = [l] := by
   have := congrArg (List.map fun p : Str => p.cps.toList) e
   rw [List.map_map, show ((fun p : Str => p.cps.toList) ∘ tx) = id from rfl, List.map_id] at this
   exact this.symm
  rw [e2]
  exact .cons ⟨t, rfl⟩ .nil
 ·have h1' := Bool.eq_false_iff.mpr h1
  by_cases h2 : (Builtin.Str.occurrences (tx l) (tx [c]) 0 (tx l).length ((tx l).length + 1)).isEmpty = true
  ·refine call_meets F.slot_str_split (typeIs_str _ _ _) F.entry_str_split (F.args_str_split_2 _ _) (meets_str_split_not_found _ _ _ _ h1' rfl h2) ?_
   have e : [tx l] = (Bw c l).map tx := by rw [← sp]; unfold Txt.split; rw [if_neg h1, if_pos h2]
   refine ⟨.ref s.heap.objs.size, upd H s.heap.objs.size (.lst (tvs (Bw c l))), I.laid (t' := s.toks) (fun b u e => Heap.get?_push_of_some _ e) (Nat.le_refl _) ⟨by rw [List.length_map]; lia, [Value.str (tx l) t], 0, ?_, Heap.get?_push_size _ rfl⟩, rfl, q _ _ hf (Ac hf) AG⟩
   have e2 : Bw c l = [l] := by
    have := congrArg (List.map fun p : Str => p.cps.toList) e
    rw [List.map_map, show ((fun p : Str => p.cps.toList) ∘ tx) = id from rfl, List.map_id] at this
    exact this.symm
   rw [e2]
   exact .cons ⟨t, rfl⟩ .nil
  ·have h2' := Bool.eq_false_iff.mpr h2
   have e : Builtin.Str.partsBetween (tx l) (Builtin.Str.occurrences (tx l) (tx [c]) 0 (tx l).length ((tx l).length + 1)) (tx [c]).length = (Bw c l).map tx := by
    rw [← sp]; unfold Txt.split; rw [if_neg h1, if_neg h2]
   refine call_meets F.slot_str_split (typeIs_str _ _ _) F.entry_str_split (F.args_str_split_2 _ _) (meets_str_split_sep _ _ _ _ h1' rfl h2' (by rw [AS]; lia) (by rw [e, List.length_map]; lia)) ?_
   rw [e]
   exact ⟨.ref s.heap.objs.size, upd H s.heap.objs.size (.lst (tvs (Bw c l))), I.laid (fun b u e => Heap.get?_push_of_some _ e) (Nat.le_refl _) ⟨by rw [List.length_map]; lia, _, 0, IX _ _, Heap.get?_push_size _ rfl⟩, rfl, q _ _ hf (Ac hf) AG⟩
theorem o_fig : Str.ofString "0123456789" = tx [48, 49, 50, 51, 52, 53, 54, 55, 56, 57] := by rfl
theorem NQ {K : PySem.W.Frag} (h : X.K = K) : MtR X "str.join" (Go K) := h ▸ GU
end
theorem FH {K : PySem.W.Frag} {a : Addr} {xs : List V} {te : TE} {caps : St} {D : Addr} {H1 : Hp} {Q : Hp → Prop} (hz : xs.length ≤ sizeLine) (hD : H1 D = none) (ht : SqT K H1 a xs) (f : V → V)
  (hs : ∀ x H (R : VK), x ∈ xs → AH H1 H → R (f x) H → te (some x :: caps) H R)
  (hd : ∀ H, AH H1 H → H D = some (.lst (xs.map f)) → Q H) : CW te CU caps (Itt K a) D H1 Q := by
 refine ⟨fun i m ys H => m = xs.length - i ∧ i ≤ xs.length ∧ AH H1 H ∧ H D = some (.lst ys) ∧ ys = (xs.take i).map f, ⟨xs.length, rfl, Nat.zero_le _, Ac hD, AG, rfl⟩, ?_⟩
 rintro i m ys H ⟨rfl, hi, s1, e1, e2⟩
 have q := s1.tup ht
 have hy : ys.length = i := by rw [e2, List.length_map, List.length_take]; lia
 by_cases hlt : i < xs.length
 ·refine .inr ⟨⟨xs, xs[i], q, by simp [hlt]⟩, fun v H' y => ?_⟩
  obtain ⟨e, y⟩ := y
  subst e
  have hx := y xs q
  unfold CU
  dsimp only
  rw [if_pos rfl]
  refine hs v _ _ (List.mem_of_getElem? hx) s1 ?_
  refine ⟨e1, by lia, _, by lia, rfl, hlt, s1.updFresh hD, AG, ?_⟩
  rw [List.take_succ, hx, List.map_append, e2]; rfl
 ·have e : i = xs.length := by lia
  subst e
  rw [List.take_length] at e2
  subst e2
  exact .inl ⟨⟨xs, q, by simp⟩, hd H s1 e1⟩
section
variable {X : Cx} {tg : Expr}
noncomputable def iSeq (K : PySem.W.Frag) (tl : TE) : TI := fun σ H R => Dh K tl σ H R ∨ O8 K tl σ H R
theorem Pn {l : Expr} {tl : TE} (hl : PE X l tl) : PI X tg l (iSeq X.K tl) := fun pins s σ H R I h => h.elim (CL hl pins s σ H R I) (LK hl pins s σ H R I)
end
theorem Oy {K : PySem.W.Frag} {ns : List Int} {te : TE} {caps : St} {D : Addr} {H1 : Hp} {Q : Hp → Prop} {J : It} (hJ : (∃ a, J = Itl K a ∧ SqL K H1 a (ns.map V.int)) ∨ ∃ a, J = Itt K a ∧ SqT K H1 a (ns.map V.int)) (hz : ns.length ≤ 1000000) (hD : H1 D = none)
  (hs : ∀ n H (R : VK), n ∈ ns → AH H1 H → R (.str (tx (dec n))) H → te (some (.int n) :: caps) H R)
  (hd : ∀ H, AH H1 H → H D = some (.lst (tvs (ns.map dec))) → Q H) : CW te CU caps J D H1 Q := by
 let f : V → V := fun v => match v with | .int n => .str (tx (dec n)) | v => v
 have ef : (ns.map V.int).map f = tvs (ns.map dec) := by rw [List.map_map, tvs, List.map_map]; rfl
 have hl : (ns.map V.int).length ≤ sizeLine := by rw [List.length_map, PySem.sizeLine_eq]; lia
 have hs' : ∀ x H (R : VK), x ∈ ns.map V.int → AH H1 H → R (f x) H → te (some x :: caps) H R := fun x H R hx s hR => by
  obtain ⟨n, hn, rfl⟩ := List.mem_map.mp hx
  exact hs n H R hn s hR
 rcases hJ with ⟨a, rfl, h⟩ | ⟨a, rfl, h⟩
 ·exact Hc hl hD h f hs' fun H s e => hd H s (by rw [e, ef])
 ·exact FH hl hD h f hs' fun H s e => hd H s (by rw [e, ef])
end L2
namespace TG
open PySem L2 PySem.W
noncomputable def Oa (K : Frag) (l : List Addr) : Prop := ∀ (i j : Nat) (a b : Addr), l[i]? = some a → l[j]? = some b → exmOne K (.ref a) (.ref b) = some (decide (i = j))
noncomputable def No (K : Frag) (ns : List Str) : Bool := ns.zipIdx.all fun p => ns.zipIdx.all fun q => Pl K p.1 q.1 == some (decide (p.2 = q.2))
noncomputable abbrev OW (K : Frag) : List Str → List Addr → Prop := Paired fun n C => nsIn K mainGlobals n = some (some (.ref C))
theorem Ng {K : Frag} {ns : List Str} {l : List Addr} (h : OW K ns l) (e : No K ns = true) : Oa K l := fun i j a b ha hb => by
 obtain ⟨n, hn, na⟩ := Paired.get h ha
 obtain ⟨m, hm, nb⟩ := Paired.get h hb
 unfold No at e
 rw [List.all_eq_true] at e
 have e1 := e (n, i) (List.mem_zipIdx_iff_getElem?.mpr hn)
 rw [List.all_eq_true] at e1
 have e2 := e1 (m, j) (List.mem_zipIdx_iff_getElem?.mpr hm)
 exact OO na nb (beq_iff_eq.mp e2)
theorem Mz {K : Frag} {l : List Addr} (h : Oa K l) {a : Addr} {D : En} {σ : St} {H : Hp} {c : Value} {th : TS} (k : th D σ H) : ∀ (ths : List (Value × TS)) (j m : Nat), (∀ n p, ths[n]? = some p → ∃ b, l[j + n]? = some b ∧ p.1 = .ref b) → ths[m]? = some (c, th) → l[j + m]? = some a → tHs K ths (.ref a) D σ H
 | [], _, _, _, ht, _ => by simp at ht
 | (c0, t0) :: r, j, m, hj, ht, hi => by
  obtain ⟨b, hb, eb⟩ := hj 0 _ rfl
  cases eb
  refine ⟨_, h _ _ a b hi hb, ?_⟩
  cases m with
  | zero =>
   rw [if_pos (decide_eq_true rfl)]
   cases ht
   exact k
  | succ m =>
   rw [if_neg (fun z => by have := of_decide_eq_true z; lia)]
   refine Mz h k r (j + 1) m (fun n p hp => ?_) ht ?_
   ·rw [show j + 1 + n = j + (n + 1) by lia]
    exact hj (n + 1) p hp
   ·rw [show j + 1 + m = j + (m + 1) by lia]
    exact hi
theorem BC {K : Frag} {l : List Addr} (h : Oa K l) (i : Nat) {a : Addr} (hi : l[i]? = some a) {ths : List (Value × TS)} {D : En} {σ : St} {H : Hp} {c : Value} {th : TS} (hm : ths.map Prod.fst = (l.take ths.length).map Value.ref) (ht : ths[i]? = some (c, th)) (k : th D σ H) : tHs K ths (.ref a) D σ H := by
 refine Mz h k ths 0 i (fun n p hp => ?_) ht (by rw [Nat.zero_add]; exact hi)
 have e := congrArg (·[n]?) hm
 simp only [List.getElem?_map, hp, Option.map_some] at e
 rw [Nat.zero_add]
 obtain ⟨b, hb, eb⟩ := Option.map_eq_some_iff.mp e.symm
 rw [List.getElem?_take] at hb
 split at hb
 ·exact ⟨b, hb, eb.symm⟩
 ·cases hb
end TG
namespace L2
open PySem
open PySem.Spec PyProof.Rows
section
variable {X : Cx}
end
section
variable {X : Cx}
end
end L2
namespace TG
open PySem L2
end TG
namespace L2
open PySem PySem.Spec PyProof.Rows
structure LD (P : Params) (K : PySem.W.Frag) (mg : Str → Option Value) (R : Addr) (fs : List (Str × Str)) : Prop where
 look : ∃ es n, K.lookup R = some ⟨.type "dict", none, .dict es n, #[]⟩ ∧ PySem.W.KeysLit P es.toList ∧ ∀ x, findBy Value.isStrOf es x = (fs.lookup x).bind mg
 low : (R == sysModules) = false
noncomputable def PH (mg : Str → Option Value) (fs : List (Str × Str)) (ty : TE) : TE := fun σ H Q => ty σ H fun y H1 => ∃ x, y = .str x ∧ match fs.lookup x with
 | none => Q .non H1
 | some n => ∃ f, mg n = some (.ref f) ∧ Q (.ref f) H1
section
variable {X : Cx} {x : Str} {R : Addr} {fs : List (Str × Str)} {e : Expr} {ty : TE} {p apos cpos : Pos}
theorem O3 (q : LD X.w.params X.K X.mg R fs) (hg : Gl X x) (hm : X.mg x = some (.ref R)) (he : PE X e ty) (m : M1 X (.Name x p) "get" apos e cpos) (hd : (x == ("__debug__" : Str)) = false := by decide) :
  PE X (.Call (.Attribute (.Name x p) "get" apos) [e] [] cpos) (PH X.mg fs ty) := by
 intro pins s σ H Q I h
 obtain ⟨es, n, hl, hk, hf⟩ := q.look
 refine wpAny_Call_method m.base m.few m.line PySem.F.plainAttrs_dict PySem.F.slot_dict_get PySem.F.type_dict_get (DO I hg hm ?_ hd)
 refine ⟨(PySem.W.mapOf_K (prog := X.prog) I.kIn hl hk).typeIs, fun b z => ?_, ?_⟩
 ·cases z; exact ⟨_, I.kIn _ _ hl, rfl⟩
 rw [m.trees]
 refine Calls.callWith_builtin rfl (Calls.evalArgs_plain (Calls.spliced_cons (thn (he pins s σ H _ I h) fun iv s2 ⟨y, H2, I2, ry, x', ex, q2⟩ => Calls.spliced_nil ?_)))
 subst ex
 obtain ⟨t, rfl⟩ := ry
 have hm2 := PySem.W.mapOf_K (prog := X.prog) I2.kIn hl hk
 refine call_meetsIn PySem.F.slot_dict_get hm2.typeIs PySem.F.entry_dict_get (PySem.F.args_dict_get_2 _ _) (meets_dict_get (strKind X.prog X.w) R (strKind_is X.prog X.w x' t) q.low) ⟨_, hm2, ?_⟩
 show EP X pins σ Q ((findBy Value.isStrOf es x').getD .none) _
 rw [hf]
 cases hz : fs.lookup x' with
 | none =>
  rw [hz] at q2
  exact ⟨.non, H2, I2.tok _, rfl, q2⟩
 | some nm =>
  rw [hz] at q2
  obtain ⟨f, h1, h2⟩ := q2
  refine ⟨.ref f, H2, I2.tok _, ?_, h2⟩
  rw [show (some nm).bind X.mg = X.mg nm from rfl, h1]
  exact rfl
end
noncomputable def LG (tab : List (Addr × Sp)) (E : XK) (tv : TE) (t : TA) : TE := fun σ H Q => tv σ H fun v H1 => ∃ p, p ∈ tab ∧ v = .ref p.1 ∧ t σ H1 fun vs H2 => p.2 vs H2 Q E
structure IW (P : Program) (w : World) (K : PySem.W.Frag) (mg : Str → Option Value) (base : Heap) (CX : CXT) (k : Nat) (tab : List (Addr × Sp)) : Prop where
 all : ∀ p ∈ tab, ∃ fd ps, Ag P w K mg base CX k p.1 fd ps p.2 ∧ PySem.W.keepIn K (.ref p.1) = true ∧ Binds K fd ps []
theorem IW.nil {P : Program} {w : World} {K : PySem.W.Frag} {mg : Str → Option Value} {base : Heap} {CX : CXT} {k : Nat} : IW P w K mg base CX k [] := ⟨fun _ h => absurd h (by simp)⟩
theorem IW.cons {P : Program} {w : World} {K : PySem.W.Frag} {mg : Str → Option Value} {base : Heap} {CX : CXT} {j k : Nat} {tab : List (Addr × Sp)} {x : Str} {st : Stmt} {ps : List Str} {f : Addr} {fd : FuncData} {sp : Sp} (d : D K mg x st ps f fd) (F : Ag P w K mg base CX j f fd ps sp) (h : IW P w K mg base CX k tab) (hj : j ≤ k := by decide) : IW P w K mg base CX k ((f, sp) :: tab) := ⟨fun p hp => by
 rcases List.mem_cons.mp hp with rfl | hp
 ·exact ⟨fd, ps, F.mono hj, d.F.kp, d.b⟩
 ·exact h.all p hp⟩
section
variable {X : Cx} {CX : CXT} {k : Nat} {E : XK} {x : Str} {p pos : Pos} {e : Expr} {es : List Expr} {tv : TE} {t : TA} {tab : List (Addr × Sp)}
theorem OA (hT : IW X.prog X.w X.K X.mg X.base CX k tab) (hr : BY k X.A) (hx : Cy CX X E) (hv : PE X (.Name x p) tv) (ha : PA X (e :: es) t)
  (he : starEach (e :: es) X.env = (false, eval e X.env) :: starEach es X.env := by rfl) (hpl : (backTo pos (starEach es X.env)).any (·.1) = false := by rfl) :
  PE X (.Call (.Name x p) (e :: es) [] pos) (LG tab E tv t) := by
 intro pins s σ H Q I h
 refine wpAny_Call_Name_kw (thn (hv pins s σ H _ I h) fun u s0 zq => ?_)
 obtain ⟨v, H0, I0, r0, pr, hm, ev, q0⟩ := zq
 subst ev
 obtain rfl : u = Value.ref pr.1 := r0
 obtain ⟨fd, ps, F, hk, hb⟩ := hT.all pr hm
 refine PySem.W.callWith_K (h₀ := X.base) I0.ok.mod.kin hk (thn (ha pos pins s0 σ H0 _ I0 q0) fun us s1 ⟨vs, H1, I1, r, q⟩ => ⟨I1.kIn, ?_⟩) he hpl
 exact JO F hr hb .nil hx I1 r (by rw [List.append_nil]; exact q)
end
end L2
namespace TG
open PySem PySem.W PySem.Calls L2
theorem My {p q : Program} {loose : List Str} {β : Type} {Yf : Shared → β} {obs : SharedT → β} {v : World → β} {N M : Nat}
  (e : opening p = plainProg p.main.scope.names) (hN : Nat.ble 600 N = true) (f : ∀ s, fenceModules? p s = some s) (le : Nat.ble M N = true) (hY : ∀ s : SharedT, Yf s.abs = obs s)
  (run : ∀ (w : World) (os : OsState), Ft p q loose obs M w os = some (true, openGood q loose, v w)) : LeftO p q loose (fun _ => true) Yf v N := fun w => by
 have open_ := boot_open e hN f w
 obtain ⟨⟨h, gs, d, k, os⟩, e1, e2⟩ := Option.map_eq_some_iff.mp open_
 obtain ⟨rfl, rfl, rfl, rfl⟩ : h = boot_heap w.params ∧ gs = #[] ∧ d = boot_drawn ∧ k = boot_toks := by simpa using e2
 obtain ⟨z1, z2, z3⟩ : _ ∧ _ ∧ _ := by simpa only [Prod.mk.injEq] using MX w.params
 obtain ⟨sT, r0, l0⟩ := Option.map_eq_some_iff.mp (run w os)
 obtain ⟨l1, l2, l3⟩ : _ ∧ _ ∧ _ := by simpa only [N2, Prod.mk.injEq] using l0
 have r1 := Ge r0
 rw [L5] at r1
 have r := topRun_mono (N - M) _ _ _ _ r1
 rw [show M + (N - M) = N by have := Nat.le_of_ble_eq_true le; lia] at r
 have t : topFrom treeTable p w N ⟨boot_heap w.params, #[], boot_drawn, boot_toks, os⟩ = some sT.abs := by
  unfold topFrom
  dsimp only
  rw [z1, z2, z3, r]
  show (match staticsOk (importedModules p.main.body) (boot_heap w.params) sT.abs.heap && namesBound p sT.abs.heap && gensDone sT.abs && laidKept (boot_heap w.params) sT.abs.heap with | true => _ | false => _) = _
  rw [l1]
 unfold openEnds
 rw [e1]
 show (topFrom treeTable p w N _).map _ = _
 rw [t]
 exact congrArg some (Prod.ext l2 ((hY sT).trans l3))
noncomputable def FM {β : Type} (as : List Addr) (obs : Frag → β) (v : World → β) (w : World) (h : Heap) : Prop := ∃ K : Frag, K.In h ∧ obs K = v w
theorem FM.of {β : Type} {as : List Addr} {obs : Frag → β} {v : World → β} (w : World) (s : Shared) (e : obs (Kof as s.heap) = v w) : FM as obs v w s.heap := ⟨_, Sl _ _, e⟩
theorem FM.keeps {β : Type} {as : List Addr} {obs : Frag → β} {v : World → β} (w : World) (h h' : Heap) (x : FM as obs v w h) (k : ∀ b o, h.get? b = some o → h'.get? b = some o) : FM as obs v w h' := x.imp fun _ z => ⟨z.1.keeps k, z.2⟩
theorem NF {l : PySem.W.OpenLaw} {n k : Nat} {q : Program} {loose : List Str} {XP : (Str → Option Value) → Heap → Prop} {β : Type} {as : List Addr} {obs : Frag → β} {v : World → β} {d : DefRec} {CX : CXT} {sp : Frag → Sp} {x : Str}
  (hn : l.most = some n) (hn2 : n ≤ sizeLine) (hdf : d.params.defaults = []) (hr : BY k callerA)
  (F : ∀ (w : World) (mg : Str → Option Value) (fa : Addr) (h : Heap) (K : Frag), obs K = v w → K.In h → h.Ns mainGlobals mg → mg d.name = some (.ref fa) →
   ∃ fd : FuncData, (∀ (s : Shared) (u : Value), BindsTo s fd ⟨[u], []⟩ [(x, u)]) ∧
    ∀ base : Heap, K.In base → base.Ns mainGlobals mg → Ag l.prog w K mg base CX k fa fd [x] (sp K))
  (hsp : ∀ (K : Frag) (H : Hp) (a : Addr) (ns : List Int), ns.length ≤ n → Rc H → SqL K H a (ns.map V.int) → sp K [.ref a] H (fun v _ => v = .bl true) fun _ _ _ => False)
  (hCX : ∀ (H : Hp) (s : Shared) (e : Value) (s' : Shared), CX [] H s (fun _ _ _ => False) e s' → False) :
  PySem.W.WalkO q loose XP (FM as obs v) l.row.toRowW d [] (fun f vs => PySem.call f vs) := by
 refine Att.attach_call hn hdf fun w s₀ s₁ mg mb fa o pm cd doc a vs ns G Y ho hd hcd hmg hobj hints hlen hg => ?_
 obtain ⟨K, KX, KO⟩ := Y
 obtain ⟨fd, hb, hF⟩ := F w mg fa _ K KO KX G.T.g hmg
 exact Nd KX G.T.g G.T.b G.T.builtins G.T.nolimit hg hobj hints (Nat.le_trans hlen hn2) hr hF hb (fun H hO hS => hsp K H a ns hlen hO hS) fun H e s' => hCX H s₁ e s'
noncomputable def rowsOf (K : Frag) (x : Str) : List DictEntry := match nsIn K mainGlobals x with
 | some (some (.ref R)) => match K.lookup R with
  | some ⟨c, none, .dict es _, sl⟩ => match c == .type "dict" && sl.size == 0 && !(R == sysModules) with
   | true => es.toList
   | false => []
  | _ => []
 | _ => []
noncomputable def O9 (K : Frag) (d : DictEntry) (f : Str × Str) : Bool := d.key.isStr f.1 && nsIn K mainGlobals f.2 == some (some d.val)
noncomputable def Lp (K : Frag) : List DictEntry → List (Str × Str) → Bool
 | [], [] => true
 | d :: r, f :: fs => O9 K d f && Lp K r fs
 | _, _ => false
noncomputable def Ss (K : Frag) (x : Str) (fs : List (Str × Str)) : Bool := Lp K (rowsOf K x) fs
noncomputable def Gd (K : Frag) (x : Str) : List Int := (rowsOf K x).map (·.hash)
theorem KZ {P : Params} {K : Frag} {h : Heap} {mg : Str → Option Value} (X : K.In h) (G : h.Ns mainGlobals mg) : ∀ {es : List DictEntry} {fs : List (Str × Str)}, Lp K es fs = true → es.map (·.hash) = fs.map (fun f => PyData.keyHash P f.1) →
  KeysLit P es ∧ ∀ x, (es.find? fun d => Value.isStrOf x d.key).map (·.val) = (fs.lookup x).bind mg
 | [], [], _, _ => ⟨trivial, fun _ => rfl⟩
 | d :: r, f :: fs, e, eh => by
  unfold Lp O9 at e
  simp only [Bool.and_eq_true, beq_iff_eq] at e
  obtain ⟨⟨e1, e2⟩, e3⟩ := e
  rw [List.map_cons, List.map_cons] at eh
  obtain ⟨h1, h2⟩ := List.cons.inj eh
  obtain ⟨k1, k2⟩ := KZ X G e3 h2
  rw [isStr_of] at e1
  obtain ⟨t, et⟩ := Value.isStrOf_shape e1
  refine ⟨⟨⟨f.1, t, et, h1⟩, k1⟩, fun x => ?_⟩
  rw [List.find?_cons]
  obtain ⟨fk, fv⟩ := f
  dsimp only at et e2 e1
  by_cases hx : x = fk
  ·subst hx
   rw [e1, List.lookup_cons_self]
   show some d.val = mg fv
   exact (mg_of X G e2).symm
  ·have n : Value.isStrOf x d.key = false := by
    rw [et]
    exact beq_eq_false_iff_ne.mpr fun z => hx (by first | exact z | exact z.symm)
   rw [n, List.lookup_cons, show (x == fk) = false from beq_eq_false_iff_ne.mpr hx]
   exact k2 x
 | [], _ :: _, e, _ => by cases e
 | _ :: _, [], e, _ => by cases e
theorem Og {P : Params} {K : Frag} {h : Heap} {mg : Str → Option Value} {x : Str} {f : Str × Str} {fs : List (Str × Str)} (X : K.In h) (G : h.Ns mainGlobals mg) (e : Ss K x (f :: fs) = true) (eh : Gd K x = (f :: fs).map (fun f => PyData.keyHash P f.1)) :
  ∃ R, mg x = some (.ref R) ∧ LD P K mg R (f :: fs) := by
 unfold Ss at e
 unfold Gd at eh
 obtain ⟨h1, h2⟩ := KZ X G e eh
 generalize hr : rowsOf K x = es at *
 unfold rowsOf at hr
 split at hr
 ·rename_i R hR
  split at hr
  ·rename_i c es0 n sl hl
   split at hr
   ·rename_i hc
    simp only [Bool.and_eq_true, beq_iff_eq, Bool.not_eq_true'] at hc
    obtain ⟨⟨rfl, hs⟩, hlow⟩ := hc
    obtain rfl : sl = #[] := Array.eq_empty_of_size_eq_zero hs
    subst hr
    refine ⟨R, mg_of X G hR, ⟨⟨es0, n, hl, h1, fun y => ?_⟩, hlow⟩⟩
    rw [← h2 y]
    unfold findBy
    rw [← Array.find?_toList]
   ·subst hr; cases e
  ·subst hr; cases e
 ·subst hr; cases e
end TG
namespace L2
open PySem PySem.Spec PyProof.Rows
noncomputable def PN (a : Str) (te : TE) : TE := fun σ H Q => te σ H fun v H1 => ∃ n, v = .int n ∧ n.natAbs.log2 < 1920 ∧ a.length + (Str.ofString (toString n)).length ≤ sizeLine ∧ Q (.str (a ++ Str.ofString (toString n))) H1
theorem Oh {X : Cx} {a : Str} {e : Expr} {te : TE} {j : Nat} {p1 p2 p3 : Pos} (he : PE X e te) (ha : a.length ≤ sizeLine := by decide +kernel) : PE X (.JoinedStr [.Constant (.str a) j p1, .FormattedValue e (-1) none p2] p3) (PN a te) := by
 intro pins s σ H Q I h
 refine wpAny_JoinedStr ?_
 show Joins _ _ _ [eval _ X.env, eval _ X.env] _ _ _
 have e1 : Str.empty ++ a = a := by
  obtain ⟨a⟩ := a
  show Str.mk (#[] ++ a) = _
  rw [Array.empty_append]
 refine Calls.Constant_str ⟨a, _, rfl, ?_, ?_⟩
 ·rw [e1]; exact ha
 ·rw [e1]
  refine wpAny_FormattedValue_plain (thn (he pins _ σ H _ (I.tok _) h) fun u s1 zq => ?_)
  obtain ⟨v, H1, I1, r1, n, ev, hn, hz, q⟩ := zq
  subst ev
  obtain ⟨t, rfl⟩ := r1
  have hl : (a ++ Str.ofString (toString n)).length ≤ sizeLine := by rw [strLen_append]; exact hz
  exact wpAny_formatField_int hn ⟨_, _, rfl, hl, hl, ⟨.str _, H1, I1.tok _, ⟨_, rfl⟩, q⟩⟩
end L2
namespace TG
open PySem L2
section
variable {C : Addr} {H H' : Hp} {n : Nat} {b S P : Nat → Addr} {ow : Nat → List Addr} {gs : Nat → List G} {past : Nat → List (List G)}
end
end TG
namespace L2
open PySem PySem.Spec PyProof.Rows
section
variable {X : Cx} {o e : Expr} {es : List Expr} {to : TE} {t : TA} {name : Str} {apos cpos : Pos} {T id : String} {r : V → List V → Hp → VK → Prop}
theorem QE {K : PySem.W.Frag} (hK : X.K = K) (pa : PlainAttrs T) (slot : Slot T name id) (hty : typeOf (.builtin id) = pure (.type "method_descriptor")) (hm : MtR X id r) (ho : PE X o to) (ha : PA X (e :: es) t)
  (hbase : attributeBase o name X.env (eval o X.env) = eval o X.env := by rfl)
  (hfew : ((backTo cpos (starEach (e :: es) X.env)).all (fun x => !x.1) && (backToKw cpos (keywordEach [] X.env)).all (fun x => x.1.isSome)
   && decide ((e :: es).length + ([] : List Keyword).length + (if ([] : List Keyword).isEmpty then 0 else 1) < 30)) = true := by rfl)
  (hline : (apos.endLine == cpos.line) = true := by rfl) (hs : starEach (e :: es) X.env = (false, eval e X.env) :: starEach es X.env := by rfl) (hplain : (backTo cpos (starEach es X.env)).any (·.1) = false := by rfl) :
  PE X (.Call (.Attribute o name apos) (e :: es) [] cpos) (tBM K T r to t) := by subst hK; exact FB pa slot hty hm ho ha hbase hfew hline hs hplain
end
end L2
namespace TG
open PySem L2
theorem Ld : ∀ (l : List Nat) (a : Nat), (∀ c ∈ l, 48 ≤ c ∧ c ≤ 57) → l.foldl (fun acc c => acc * 10 + (c - 48)) a + 1 ≤ (a + 1) * 10 ^ l.length
 | [], a, _ => by simp
 | c :: r, a, h => by
  have h1 := h c List.mem_cons_self
  have h2 := Ld r (a * 10 + (c - 48)) fun x hx => h x (List.mem_cons_of_mem _ hx)
  rw [List.foldl_cons, List.length_cons]
  refine Nat.le_trans h2 ?_
  rw [Nat.pow_succ, Nat.mul_comm (10 ^ r.length) 10, ← Nat.mul_assoc]
  exact Nat.mul_le_mul_right _ (by lia)
theorem num9 {w : List Nat} {n : Int} (h : rdN w = some n) : n.natAbs ≤ 999999999 := by
 unfold rdN at h
 split at h
 ·cases h; decide
 ·split at h
  ·rename_i h1
   cases h
   obtain ⟨h1, h2, h3, h4⟩ := h1
   have h5 := Ld _ 0 h3
   have h6 : 10 ^ (bare w).length ≤ 10 ^ 9 := Nat.pow_le_pow_right (by decide) h2
   have h7 : NumText.digitsVal (bare w) + 1 ≤ 10 ^ (bare w).length := by
    rw [Nat.zero_add, Nat.one_mul] at h5; exact h5
   split <;> lia
  ·cases h
section
variable {C : Addr} {H H' : Hp} {n : Nat} {b S P : Nat → Addr} {ow : Nat → List Addr} {gs : Nat → List G} {past : Nat → List (List G)}
variable {L0 : List (Addr × HO)} {Kl : Nat → Addr} {as : Nat → List Addr} {ks : Nat → List G}
end
structure Wa (H : Hp) (gs : List G) (past : List (List G)) (D L : Addr) : Prop where
 std : Std gs
 stds : ∀ x ∈ past, Std x
 len : past.length ≤ 300
 dk : Ay H D gs
 pl : ∃ ds : List Addr, H L = some (.lst (ds.map V.ref)) ∧ Paired (Ay H) ds past ∧ D ∉ ds
theorem Wa.same {H H' : Hp} {gs : List G} {past : List (List G)} {D L : Addr} (h : Wa H gs past D L) (s : AH H H') : Wa H' gs past D L := by
 obtain ⟨ds, e, pr, n⟩ := h.pl
 exact ⟨h.std, h.stds, h.len, h.dk.same s, ⟨ds, s.get e, Paired.mapP pr fun _ _ q => q.same s, n⟩⟩
theorem Wa.plen {H : Hp} {gs : List G} {past : List (List G)} {D L : Addr} (h : Wa H gs past D L) : ∃ xs, H L = some (.lst xs) ∧ xs.length = past.length := by
 obtain ⟨ds, e, pr, _⟩ := h.pl
 exact ⟨_, e, by rw [List.length_map, Paired.length pr]⟩
theorem Ih {past : List (List G)} (h : Bz past = none) : past.length < 300 := by
 unfold Bz at h
 split at h
 ·cases h
 ·lia
theorem Nu {w : Str} {gs : List G} {past : List (List G)} {p x y : Int} (wd : Wrd w) (sd : Std gs) (sds : ∀ z ∈ past, Std z) (l : past.length ≤ 300) (h : A8 w gs past p x y = none) :
  Std (B2 w gs past p x y) ∧ (∀ z ∈ CQ w gs past p, Std z) ∧ (CQ w gs past p).length ≤ 300 := by
 by_cases nb : w = "back"
 ·rw [Eg nb] at h
  unfold Db at h
  split at h
  ·cases h
  ·split at h
   ·cases h
   ·rename_i h1 h2
    have eG : B2 w gs past p x y = past.getD (past.length - p.toNat) [] := if_pos nb
    have eP : CQ w gs past p = past.take (past.length - p.toNat) := if_pos nb
    rw [eG, eP]
    have hj : past.length - p.toNat < past.length := by lia
    refine ⟨?_, fun z hz => sds z (List.mem_of_mem_take hz), by rw [List.length_take]; lia⟩
    rw [List.getD_eq_getElem?_getD, List.getElem?_eq_getElem hj]
    exact sds _ (List.getElem_mem hj)
 rw [C6 nb]
 have tail : past.length < 300 → Std (B2 w gs past p x y) → Std (B2 w gs past p x y) ∧ (∀ z ∈ past ++ [gs], Std z) ∧ (past ++ [gs]).length ≤ 300 := fun h1 h2 => ⟨h2, fun z hz => by
  rcases List.mem_append.mp hz with q | q
  ·exact sds z q
  ·rw [List.mem_singleton.mp q]; exact sd, by rw [List.length_append, List.length_singleton]; lia⟩
 by_cases nt : w = "take"
 ·rw [Ee nt] at h
  unfold C2 at h
  split at h
  ·refine tail (Ih h) ?_
   rw [Eo nt]
   exact sd.take
  ·cases h
 rw [De nb nt] at tail ⊢
 have lft : ∀ a b : Int, Ba gs past p a b = none → (DA p (((AW gs p).elim 0 G.f) + a) (((AW gs p).elim 0 G.h) + b) = none) ∧ past.length < 300 ∧ (gs.filter fun g => !decide (g.p = p)).length < 40 := fun a b h => by
  unfold Ba at h
  split at h
  ·cases h
  ·rename_i g hg
   obtain ⟨h1, h2⟩ := Option.or_eq_none_iff.mp h
   rw [hg]
   obtain ⟨m, rfl⟩ := Aw hg
   exact ⟨h1, Ih h2, by have := NA m; have := sd.len; lia⟩
 rcases wd with wd | wd | wd | wd | wd
 ·rw [IR wd] at h
  unfold FS at h
  split at h
  ·cases h
  ·rename_i hp
   obtain ⟨h1, h2⟩ := Option.or_eq_none_iff.mp h
   split at h2
   ·cases h2
   ·split at h2
    ·cases h2
    ·have ew : Ak w gs p x y = (x, y) := if_pos wd
     rw [ew] at tail ⊢
     exact tail (by lia) (sd.put (Bk.mp h1) (by rw [KS hp]; lia))
 ·exact absurd wd nt
 ·rw [HP wd] at h
  obtain ⟨h1, h2, h3⟩ := lft x y h
  have ew : Ak w gs p x y = (((AW gs p).elim 0 G.f) + x, ((AW gs p).elim 0 G.h) + y) := by
   unfold Ak
   rw [if_neg (by rw [wd]; decide), if_pos wd]
  rw [ew] at tail ⊢
  exact tail h2 (sd.put (Bk.mp h1) h3)
 ·rw [HW wd] at h
  obtain ⟨h1, h2, h3⟩ := lft (-x) (-y) h
  have ew : Ak w gs p x y = (((AW gs p).elim 0 G.f) - x, ((AW gs p).elim 0 G.h) - y) := by
   unfold Ak
   rw [if_neg (by rw [wd]; decide), if_neg (by rw [wd]; decide), if_pos wd]
  rw [ew] at tail ⊢
  exact tail h2 (sd.put (Bk.mp h1) h3)
 ·exact absurd wd nb
noncomputable abbrev Bg (n : Int) : Prop := n.natAbs ≤ 10000000000000000000000000000000
theorem Bg.b40 {n : Int} (h : Bg n) : n.natAbs ≤ 10 ^ 40 := Nat.le_trans h (by decide +kernel)
theorem Om {xs : List Int} (h : ∀ x ∈ xs, 0 ≤ x ∧ x < 4004001) (i : Nat) : 0 ≤ xs.getD i 0 ∧ xs.getD i 0 < 4004001 := by
 rw [List.getD_eq_getElem?_getD]
 cases e : xs[i]? with
 | none => exact ⟨by decide, by decide⟩
 | some v => exact h v (List.mem_of_getElem? e)
theorem M8 {P : Int → Prop} {xs : List Int} (h : ∀ x ∈ xs, P x) (h0 : P 0) (i : Nat) : P (xs.getD i 0) := by
 rw [List.getD_eq_getElem?_getD]
 cases e : xs[i]? with
 | none => exact h0
 | some v => exact h v (List.mem_of_getElem? e)
theorem Kv {l : List V} {e : Int} {P : V → Prop} (h : ∀ v ∈ l, ∃ i, v = V.int i ∧ Bg i) (h0 : 0 ≤ e) (h1 : e < l.length) (k : ∀ i, Bg i → P (.int i)) : ∃ x, atI l e = some x ∧ P x := by
 obtain ⟨n, rfl⟩ := Int.eq_ofNat_of_zero_le h0
 have hn : n < l.length := by lia
 obtain ⟨i, e1, hb⟩ := h _ (List.getElem_mem hn)
 exact ⟨.int i, Cb (by rw [List.getElem?_eq_getElem hn, e1]), k i hb⟩
end TG
namespace L2
open PySem PySem.Spec PyProof.Rows
theorem F8 (f : Nat → Int) : ∀ k, argBest (fun i j => decide (f i > f j)) k ≤ k ∧ ∀ j, j ≤ k → f j ≤ f (argBest (fun i j => decide (f i > f j)) k)
 | 0 => ⟨Nat.le_refl _, fun j hj => by rw [Nat.le_zero.mp hj]; exact Int.le_refl _⟩
 | k + 1 => by
  obtain ⟨h1, h2⟩ := F8 f k
  unfold argBest
  by_cases c : f (k + 1) > f (argBest (fun i j => decide (f i > f j)) k)
  ·rw [if_pos (decide_eq_true c)]
   refine ⟨Nat.le_refl _, fun j hj => ?_⟩
   rcases Nat.lt_or_ge j (k + 1) with h | h
   ·have := h2 j (by lia); lia
   ·rw [show j = k + 1 by lia]; exact Int.le_refl _
  ·rw [if_neg (fun z => c (of_decide_eq_true z))]
   refine ⟨by lia, fun j hj => ?_⟩
   rcases Nat.lt_or_ge j (k + 1) with h | h
   ·exact h2 j (by lia)
   ·rw [show j = k + 1 by lia]; lia
noncomputable def PD (K : PySem.W.Frag) : List V → Hp → VK → Prop := fun xs H Q => ∃ a, xs = [.ref a] ∧ ∃ ns : List Int, SqL K H a (ns.map V.int) ∧ ns ≠ [] ∧ ∀ m, m ∈ ns → (∀ b ∈ ns, b ≤ m) → Q (.int m) H
theorem MF {X : Cx} (hc : X.calm = true) : BJ X (.builtin "max") (PD X.K) := by
 intro pins s σ H xs us Q I r h
 obtain ⟨a, rfl, ns, hq, hne, q⟩ := h
 obtain ⟨u, rfl, rx⟩ := vals1 r
 cases rx
 obtain ⟨its, r', pl, hz⟩ := I.list hq
 have hlen := r'.length
 rw [List.length_map] at hlen
 have hpos := List.length_pos_iff.mpr hne
 have hlt : a < s.heap.objs.size := by obtain ⟨o, n, e, _⟩ := id pl; exact Heap.lt_size e
 have hv : ∀ (i : Nat) (v : Value), its.toArray[i]? = some v → ∃ t, v = .int (ns.getD i 0) t := fun i v hP => by
  have hv : its[i]? = some v := by simpa using hP
  obtain ⟨hi, _⟩ := List.getElem?_eq_some_iff.mp hv
  obtain ⟨u, e1, e2⟩ := r'.get (i := i) (x := V.int (ns.getD i 0)) (by rw [List.getElem?_map, List.getElem?_eq_getElem (by lia), List.getD_eq_getElem?_getD, List.getElem?_eq_getElem (by lia)]; rfl)
  rw [Option.some.inj (hv.symm.trans e1)]
  exact e2
 refine call_max_walk (wpAny_pyIter_list pl.isList ?_)
 refine ⟨s.heap.objs.size, _, _, _, _, _, _, rfl, Walks.list (A := X.A.in1) (I.ok.hd hc) _ a (Nat.ne_of_lt hlt) its.toArray, ⟨⟨_, Heap.get?_push_size _ rfl, rfl, rfl⟩, pl.isList.at fun o e => Heap.get?_push_of_some _ e⟩, fun b hb => ?_, by simp; lia, CmpOf.ints_gt (fun i => ns.getD i 0) hv, fun v h' tk hP hk => ?_⟩
 ·show b < (s.heap.push _).objs.size
  rw [Heap.size_push]
  rcases List.mem_cons.mp hb with rfl | hb
  ·exact Nat.lt_succ_self _
  ·rcases List.mem_cons.mp hb with rfl | hb
   ·exact Nat.lt_succ_of_lt hlt
   ·cases hb
 ·have I2 : Inv X pins σ H { s with heap := h', toks := tk } := I.kept fun b o e => hk b o (fun z => by
   rw [List.mem_singleton.mp z] at e
   exact absurd (Heap.lt_size e) (Nat.lt_irrefl _)) (Heap.get?_push_of_some _ e)
  obtain ⟨t, rfl⟩ := hv _ _ hP
  have hs : its.toArray.size - 1 = ns.length - 1 := by simp [hlen]
  rw [hs] at hP ⊢
  obtain ⟨b1, b2⟩ := F8 (fun i => ns.getD i 0) (ns.length - 1)
  have gm : ∀ i, i < ns.length → ns.getD i 0 ∈ ns := fun i hi => by rw [List.getD_eq_getElem?_getD, List.getElem?_eq_getElem hi]; exact List.getElem_mem hi
  refine ⟨.int _, H, I2, ⟨t, rfl⟩, q _ (gm _ (by lia)) fun b hb => ?_⟩
  obtain ⟨i, hi, rfl⟩ := List.getElem_of_mem hb
  have := b2 i (by lia)
  have e : ns.getD i 0 = ns[i] := by rw [List.getD_eq_getElem?_getD, List.getElem?_eq_getElem hi]; rfl
  rw [← e]
  exact this
end L2
namespace LM
open PySem L2
end LM
namespace L2
open PySem PySem.Spec PyProof.Rows
section
variable {prog : Program} {w : World} {A : Around} {E : Value → Shared → Prop} {s : Shared}
end
noncomputable def Itz (K : PySem.W.Frag) (p q : Addr) : It :=
 ⟨fun i H => ∃ xs ys x y, SqT K H p xs ∧ SqT K H q ys ∧ xs[i]? = some x ∧ ys[i]? = some y, fun i H x H' => ∃ c u v, x = .ref c ∧ H c = none ∧ H' = upd H c (.tup [u, v]) ∧ (∀ xs, SqT K H p xs → xs[i]? = some u) ∧ ∀ ys, SqT K H q ys → ys[i]? = some v, fun i H => ∃ xs ys, SqT K H p xs ∧ SqT K H q ys ∧ xs.length ≤ i⟩
section
variable {X : Cx}
noncomputable def iZip (K : PySem.W.Frag) (ta : TA) : TI := fun σ H R => ta σ H fun vs H1 => ∃ p q, vs = [.ref p, .ref q] ∧ (∃ xs, SqT K H1 p xs) ∧ (∃ ys, SqT K H1 q ys) ∧ R (Itz K p q) H1
end
end L2
namespace TG
open PySem L2
noncomputable abbrev GT : Type := Str → Str → Str → Str → Str → Str → Str → Str → Str → Str → Str → Str → Str → Str → Str → Str → Str → Str → Str → Str → Str → Str → Str → Str → Str → Str → Str → Str → Str → Str → Str → Str → Str → Str → Str → Str → Str → Str → Str → Str → Str → Str → Str → Str → Str → Str → Str → Str → Str → Str → Str → Str → Str → Str → Str → Str → Str → Str → Str → Str → Str → Str → Str → Str → Str → Str → Str → Str → Str → Str → Str → Str → Str → Str → Str → Str → Str → Str → Str → Str → Str → Str → Str → Str → Str → Str → Str → Str → Str → Str → Str → Str → Str → Str → Str → Str → Str → Str → Str → Str → Str → Str → Str → Str → Str → Str → Str → Str → Str → Str → Str → Str → Str → Str → Str → Str → Str → Str → Str → Str → Str → Str → Str → Str → Str → Str → Str → Str → Str → Str → Str → Str → Str → Str → Str → Str → Str → Str → Str → Str → Str → Str → Str → Str → Str → Str → Str → Str → Str → Str → Str → Str → Str → Str → Str → Str → Str → Str → Str → Str → Str → Str → Str → Str → Str → Str → Str → Str → Str → Str → Str → Str → Str → Str → Str → Str → Str → Str → Str → Str → Str → Str → Str → Str → Str → Str → Str → Str → Str → Str → Str → Str → Str → Str → Str → Str → Str → Str → Str → Str → Str → Str → Str → Str → Str → Str → Str → Str → Str → Str → Str → Str → Str → Str → Str → Str → Str → Str → Str → Str → Str → Str → Str → Str → Str → Str → Str → Str → Str → Str → Str → Str → Str → Str → Str → Str → Str → Str → Str → Str → Str → Str → Str → Str → Str → Str → Str → Str → Str → Str → Str → Str → Str → Str → Str → Str → Str → Str → Str → Str → Str → Str → Str → Str → Str → Str → Str → Str → Str → Str → Str → Str → Str → Str → Str → Str → Str → Str → Str → Str → Str → Str → Str → Str → Str → Str → Str → Str → Str → Str → Str → Str → Str → Str → Str → Str → Str → Str → Str → Str → Str → Str → Str → Str → Str → Str → Str → Program
noncomputable def EqA (p : Program) (G : GT) : Prop := p = G (.ofString "_law_would") (.ofString "_law_stands") (.ofString "_law_deed_here") (.ofString "_law_word") (.ofString "_law_place") (.ofString "_law_one") (.ofString "_law_two") (.ofString "put") (.ofString "_law_foot") (.ofString "_law_head") (.ofString "get") (.ofString "lift") (.ofString "sink") (.ofString "_law_refusal") (.ofString "_law_past") (.ofString "back") (.ofString "out of bounds") (.ofString "") (.ofString "nothing back") (.ofString "int") (.ofString "len") (.ofString "taken") (.ofString "no gate") (.ofString "_law_gate") (.ofString "upside down") (.ofString "max") (.ofString "abs") (.ofString "beach full") (.ofString "deeds full") (.ofString "_law_kept") (.ofString "_law_kept_here") (.ofString "clear") (.ofString "update") (.ofString "_law_count") (.ofString "range") (.ofString "pop") (.ofString "append") (.ofString "dict") (.ofString "take") (.ofString "_law_due") (.ofString "_law_written") (.ofString "_law_part") (.ofString ".0") (.ofString "refused: bad row") (.ofString "_law_refused") (.ofString "refused: ") (.ofString "deeds ") (.ofString "str") (.ofString "gate ") (.ofString " ") (.ofString "fast") (.ofString "_law_standing") (.ofString "sorted") (.ofString "_law_shown") (.ofString "gates") (.ofString "join") (.ofString ":") (.ofString "law") (.ofString "_law_script") (.ofString "_law_asked") (.ofString "_law_due_here") (.ofString "_law_how_here") (.ofString "_law_how") (.ofString "_law_row") (.ofString "_law_k") (.ofString "_law_deed") (.ofString "deeds") (.ofString "_law_handed") (.ofString "list") (.ofString "_law_found") (.ofString "answers") (.ofString "isinstance") (.ofString "_law_none") (.ofString "__name__") (.ofString "law_throwgate_k34_desk_deeds") (.ofString "_law_spread") (.ofString "_law_cell") (.ofString "_law_many") (.ofString "_law_mixed") (.ofString "_law_row_here") (.ofString "_law_left") (.ofString "_law_once") (.ofString "_law_menu") (.ofString "_law_draw") (.ofString "_law_at") (.ofString "_law_pool") (.ofString "_law_kind") (.ofString "_law_line") (.ofString "_law_any_two") (.ofString "most_row") (.ofString "beach") (.ofString "words") (.ofString "check_many") (.ofString "told") (.ofString "most") (.ofString "number_words") (.ofString "throw") (.ofString "throw_words") (.ofString "passed_row") (.ofString "height") (.ofString "read_fraction") (.ofString "rise") (.ofString "passed") (.ofString "ROWS") (.ofString "through") (.ofString "steepest") (.ofString "flattest") (.ofString "runs") (.ofString "put_row") (.ofString "take_row") (.ofString "lift_row") (.ofString "sink_row") (.ofString "back_row") (.ofString "deeds_row") (.ofString "gates_row") (.ofString "through_row") (.ofString "steepest_row") (.ofString "flattest_row") (.ofString "runs_row") (.ofString "row_told") (.ofString "row") (.ofString "split") (.ofString "asked") (.ofString "BadRow") (.ofString "the desk does not know this word") (.ofString "row_answer") (.ofString "NoGate") (.ofString "refused: no gate") (.ofString "Taken") (.ofString "refused: taken") (.ofString "UpsideDown") (.ofString "refused: upside down") (.ofString "OutOfBounds") (.ofString "refused: out of bounds") (.ofString "BeachFull") (.ofString "refused: beach full") (.ofString "DeedsFull") (.ofString "refused: deeds full") (.ofString "NothingBack") (.ofString "refused: nothing back") (.ofString "BadList") (.ofString "refused: bad list") (.ofString "TooFew") (.ofString "refused: too few") (.ofString "WrongSize") (.ofString "refused: wrong size") (.ofString "BadThrow") (.ofString "refused: bad throw") (.ofString "Desk") (.ofString "__init__") (.ofString "self") (.ofString "Beach") (.ofString "answer") (.ofString "rows") (.ofString "desk") (.ofString "deeds_text") (.ofString "gate") (.ofString "through_text") (.ofString "read_numbers") (.ofString "foot") (.ofString "head") (.ofString "run_word") (.ofString "run") (.ofString "ends") (.ofString "bar") (.ofString "end") (.ofString "place") (.ofString "zip") (.ofString "numbers") (.ofString "read_so_many") (.ofString "gate_text") (.ofString "read_number") (.ofString "word") (.ofString "many") (.ofString "number") (.ofString "write_fraction") (.ofString "MOST_FIGURES") (.ofString "are_figures") (.ofString "text") (.ofString "all") (.ofString "sign") (.ofString "FIGURES") (.ofString "0") (.ofString "figures") (.ofString "startswith") (.ofString "-") (.ofString "this is not how a number is written") (.ofString "parts") (.ofString "/") (.ofString "a fraction has one stroke at most") (.ofString "top") (.ofString "bottom") (.ofString "fraction") (.ofString "lowest") (.ofString "throwgate.desk") (.ofString "too few or too many words") (.ofString "check_gate") (.ofString "the foot would be above the head") (.ofString "LEAST") (.ofString "GREATEST") (.ofString "a place, foot or head would be out of bounds") (.ofString "check_places") (.ofString "places") (.ofString "the list has no place") (.ofString "MOST_GATES") (.ofString "the list has too many places") (.ofString "set") (.ofString "the list has a place twice") (.ofString "check_throw") (.ofString "a bottom is below 1") (.ofString "GREAT_NUMBER") (.ofString "a number of the throw is too great") (.ofString "standing") (.ofString "past") (.ofString "has_gate") (.ofString "gate_at") (.ofString "no gate stands at this place") (.ofString "do_deed") (.ofString "instead") (.ofString "MOST_DEEDS") (.ofString "no more deeds may stand") (.ofString "others") (.ofString "a gate stands at this place already") (.ofString "no more gates may stand") (.ofString "foot_by") (.ofString "head_by") (.ofString "before") (.ofString "one deed is the least that is taken back") (.ofString "fewer deeds stand") (.ofString "left") (.ofString "gates_at") (.ofString "two_gates_at") (.ofString "one gate alone has no steepest and no flattest throw") (.ofString "throw_through") (.ofString "steepest_throw") (.ofString "flattest_throw") (.ofString "fewest_runs") (.ofString "SMALL_BEACH") (.ofString "the most are told of a small beach that is not empty") (.ofString "most_gates") (.ofString "places_passed") (.ofString "throwgate.texts") (.ofString "0123456789") (.ofString "throwgate.shore") (.ofString "run_told") (.ofString "longer") (.ofString "longer_throw") (.ofString "common_throw") (.ofString "throwgate.small") (.ofString "tried_throws") (.ofString "ordered") (.ofString "throws") (.ofString "index") (.ofString "earlier") (.ofString "enumerate") (.ofString "later") (.ofString "line_by") (.ofString "tried") (.ofString "key") (.ofString "throwgate.beach") (.ofString "level_throw") (.ofString "found") (.ofString "steepest_found") (.ofString "bar_told") (.ofString "first_three") (.ofString "turned_over") (.ofString "turned_throw") (.ofString "throwgate.lists") (.ofString "passes_all") (.ofString "passes") (.ofString "foot_to_head") (.ofString "tightest_pair") (.ofString "pair") (.ofString "compare") (.ofString "foot_place") (.ofString "head_place") (.ofString "divisor") (.ofString "greatest_divisor") (.ofString "one") (.ofString "two") (.ofString "right") (.ofString "throwgate.lines") (.ofString "height_at") (.ofString "height_top") (.ofString "height_bottom") (.ofString "rise_top") (.ofString "rise_bottom") (.ofString "other") (.ofString "second") (.ofString "steps") (.ofString "gain") (.ofString "start") (.ofString "BeachError") (.ofString "throwgate.bars") (.ofString "side_of_line") (.ofString "barring") (.ofString "three") (.ofString "count") (.ofString "first") (.ofString "middle") (.ofString "last") (.ofString "throwgate.fracs") (.ofString "rest") (.ofString "next_rest") (.ofString "throwgate.errors") (.ofString "ValueError") (.ofString "/claim/cut.py")
noncomputable def Gp : GT := by
 refine' (?m : _ → GT) (?h : EqA PySem.Challenge.pw_throwgate_k34_desk_deeds ?G)
 case h =>
  delta EqA PySem.Challenge.pw_throwgate_k34_desk_deeds
  iterate 307 (generalize Str.ofString _ = x)
  exact rfl
 case m => exact fun _ => ?G
theorem Gq : EqA PySem.Challenge.pw_throwgate_k34_desk_deeds Gp := by delta EqA; kernel_rfl
theorem at_0 : Str.ofString "_law_would" = Str.mk (.mk [95, 108, 97, 119, 95, 119, 111, 117, 108, 100]) := by kernel_rfl
theorem at_1 : Str.ofString "_law_stands" = Str.mk (.mk [95, 108, 97, 119, 95, 115, 116, 97, 110, 100, 115]) := by kernel_rfl
theorem at_2 : Str.ofString "_law_deed_here" = Str.mk (.mk [95, 108, 97, 119, 95, 100, 101, 101, 100, 95, 104, 101, 114, 101]) := by kernel_rfl
theorem at_3 : Str.ofString "_law_word" = Str.mk (.mk [95, 108, 97, 119, 95, 119, 111, 114, 100]) := by kernel_rfl
theorem at_4 : Str.ofString "_law_place" = Str.mk (.mk [95, 108, 97, 119, 95, 112, 108, 97, 99, 101]) := by kernel_rfl
theorem at_5 : Str.ofString "_law_one" = Str.mk (.mk [95, 108, 97, 119, 95, 111, 110, 101]) := by kernel_rfl
theorem at_6 : Str.ofString "_law_two" = Str.mk (.mk [95, 108, 97, 119, 95, 116, 119, 111]) := by kernel_rfl
theorem at_7 : Str.ofString "put" = Str.mk (.mk [112, 117, 116]) := by kernel_rfl
theorem at_8 : Str.ofString "_law_foot" = Str.mk (.mk [95, 108, 97, 119, 95, 102, 111, 111, 116]) := by kernel_rfl
theorem at_9 : Str.ofString "_law_head" = Str.mk (.mk [95, 108, 97, 119, 95, 104, 101, 97, 100]) := by kernel_rfl
theorem at_10 : Str.ofString "get" = Str.mk (.mk [103, 101, 116]) := by kernel_rfl
theorem at_11 : Str.ofString "lift" = Str.mk (.mk [108, 105, 102, 116]) := by kernel_rfl
theorem at_12 : Str.ofString "sink" = Str.mk (.mk [115, 105, 110, 107]) := by kernel_rfl
theorem at_13 : Str.ofString "_law_refusal" = Str.mk (.mk [95, 108, 97, 119, 95, 114, 101, 102, 117, 115, 97, 108]) := by kernel_rfl
theorem at_14 : Str.ofString "_law_past" = Str.mk (.mk [95, 108, 97, 119, 95, 112, 97, 115, 116]) := by kernel_rfl
theorem at_15 : Str.ofString "back" = Str.mk (.mk [98, 97, 99, 107]) := by kernel_rfl
theorem at_16 : Str.ofString "out of bounds" = Str.mk (.mk [111, 117, 116, 32, 111, 102, 32, 98, 111, 117, 110, 100, 115]) := by kernel_rfl
theorem at_17 : Str.ofString "" = Str.mk (.mk []) := by kernel_rfl
theorem at_18 : Str.ofString "nothing back" = Str.mk (.mk [110, 111, 116, 104, 105, 110, 103, 32, 98, 97, 99, 107]) := by kernel_rfl
theorem at_19 : Str.ofString "int" = Str.mk (.mk [105, 110, 116]) := by kernel_rfl
theorem at_20 : Str.ofString "len" = Str.mk (.mk [108, 101, 110]) := by kernel_rfl
theorem at_21 : Str.ofString "taken" = Str.mk (.mk [116, 97, 107, 101, 110]) := by kernel_rfl
theorem at_22 : Str.ofString "no gate" = Str.mk (.mk [110, 111, 32, 103, 97, 116, 101]) := by kernel_rfl
theorem at_23 : Str.ofString "_law_gate" = Str.mk (.mk [95, 108, 97, 119, 95, 103, 97, 116, 101]) := by kernel_rfl
theorem at_24 : Str.ofString "upside down" = Str.mk (.mk [117, 112, 115, 105, 100, 101, 32, 100, 111, 119, 110]) := by kernel_rfl
theorem at_25 : Str.ofString "max" = Str.mk (.mk [109, 97, 120]) := by kernel_rfl
theorem at_26 : Str.ofString "abs" = Str.mk (.mk [97, 98, 115]) := by kernel_rfl
theorem at_27 : Str.ofString "beach full" = Str.mk (.mk [98, 101, 97, 99, 104, 32, 102, 117, 108, 108]) := by kernel_rfl
theorem at_28 : Str.ofString "deeds full" = Str.mk (.mk [100, 101, 101, 100, 115, 32, 102, 117, 108, 108]) := by kernel_rfl
theorem at_29 : Str.ofString "_law_kept" = Str.mk (.mk [95, 108, 97, 119, 95, 107, 101, 112, 116]) := by kernel_rfl
theorem at_30 : Str.ofString "_law_kept_here" = Str.mk (.mk [95, 108, 97, 119, 95, 107, 101, 112, 116, 95, 104, 101, 114, 101]) := by kernel_rfl
theorem at_31 : Str.ofString "clear" = Str.mk (.mk [99, 108, 101, 97, 114]) := by kernel_rfl
theorem at_32 : Str.ofString "update" = Str.mk (.mk [117, 112, 100, 97, 116, 101]) := by kernel_rfl
theorem at_33 : Str.ofString "_law_count" = Str.mk (.mk [95, 108, 97, 119, 95, 99, 111, 117, 110, 116]) := by kernel_rfl
theorem at_34 : Str.ofString "range" = Str.mk (.mk [114, 97, 110, 103, 101]) := by kernel_rfl
theorem at_35 : Str.ofString "pop" = Str.mk (.mk [112, 111, 112]) := by kernel_rfl
theorem at_36 : Str.ofString "append" = Str.mk (.mk [97, 112, 112, 101, 110, 100]) := by kernel_rfl
theorem at_37 : Str.ofString "dict" = Str.mk (.mk [100, 105, 99, 116]) := by kernel_rfl
theorem at_38 : Str.ofString "take" = Str.mk (.mk [116, 97, 107, 101]) := by kernel_rfl
theorem at_39 : Str.ofString "_law_due" = Str.mk (.mk [95, 108, 97, 119, 95, 100, 117, 101]) := by kernel_rfl
theorem at_40 : Str.ofString "_law_written" = Str.mk (.mk [95, 108, 97, 119, 95, 119, 114, 105, 116, 116, 101, 110]) := by kernel_rfl
theorem at_41 : Str.ofString "_law_part" = Str.mk (.mk [95, 108, 97, 119, 95, 112, 97, 114, 116]) := by kernel_rfl
theorem at_42 : Str.ofString ".0" = Str.mk (.mk [46, 48]) := by kernel_rfl
theorem at_43 : Str.ofString "refused: bad row" = Str.mk (.mk [114, 101, 102, 117, 115, 101, 100, 58, 32, 98, 97, 100, 32, 114, 111, 119]) := by kernel_rfl
theorem at_44 : Str.ofString "_law_refused" = Str.mk (.mk [95, 108, 97, 119, 95, 114, 101, 102, 117, 115, 101, 100]) := by kernel_rfl
theorem at_45 : Str.ofString "refused: " = Str.mk (.mk [114, 101, 102, 117, 115, 101, 100, 58, 32]) := by kernel_rfl
theorem at_46 : Str.ofString "deeds " = Str.mk (.mk [100, 101, 101, 100, 115, 32]) := by kernel_rfl
theorem at_47 : Str.ofString "str" = Str.mk (.mk [115, 116, 114]) := by kernel_rfl
theorem at_48 : Str.ofString "gate " = Str.mk (.mk [103, 97, 116, 101, 32]) := by kernel_rfl
theorem at_49 : Str.ofString " " = Str.mk (.mk [32]) := by kernel_rfl
theorem at_50 : Str.ofString "fast" = Str.mk (.mk [102, 97, 115, 116]) := by kernel_rfl
theorem at_51 : Str.ofString "_law_standing" = Str.mk (.mk [95, 108, 97, 119, 95, 115, 116, 97, 110, 100, 105, 110, 103]) := by kernel_rfl
theorem at_52 : Str.ofString "sorted" = Str.mk (.mk [115, 111, 114, 116, 101, 100]) := by kernel_rfl
theorem at_53 : Str.ofString "_law_shown" = Str.mk (.mk [95, 108, 97, 119, 95, 115, 104, 111, 119, 110]) := by kernel_rfl
theorem at_54 : Str.ofString "gates" = Str.mk (.mk [103, 97, 116, 101, 115]) := by kernel_rfl
theorem at_55 : Str.ofString "join" = Str.mk (.mk [106, 111, 105, 110]) := by kernel_rfl
theorem at_56 : Str.ofString ":" = Str.mk (.mk [58]) := by kernel_rfl
theorem at_57 : Str.ofString "law" = Str.mk (.mk [108, 97, 119]) := by kernel_rfl
theorem at_58 : Str.ofString "_law_script" = Str.mk (.mk [95, 108, 97, 119, 95, 115, 99, 114, 105, 112, 116]) := by kernel_rfl
theorem at_59 : Str.ofString "_law_asked" = Str.mk (.mk [95, 108, 97, 119, 95, 97, 115, 107, 101, 100]) := by kernel_rfl
theorem at_60 : Str.ofString "_law_due_here" = Str.mk (.mk [95, 108, 97, 119, 95, 100, 117, 101, 95, 104, 101, 114, 101]) := by kernel_rfl
theorem at_61 : Str.ofString "_law_how_here" = Str.mk (.mk [95, 108, 97, 119, 95, 104, 111, 119, 95, 104, 101, 114, 101]) := by kernel_rfl
theorem at_62 : Str.ofString "_law_how" = Str.mk (.mk [95, 108, 97, 119, 95, 104, 111, 119]) := by kernel_rfl
theorem at_63 : Str.ofString "_law_row" = Str.mk (.mk [95, 108, 97, 119, 95, 114, 111, 119]) := by kernel_rfl
theorem at_64 : Str.ofString "_law_k" = Str.mk (.mk [95, 108, 97, 119, 95, 107]) := by kernel_rfl
theorem at_65 : Str.ofString "_law_deed" = Str.mk (.mk [95, 108, 97, 119, 95, 100, 101, 101, 100]) := by kernel_rfl
theorem at_66 : Str.ofString "deeds" = Str.mk (.mk [100, 101, 101, 100, 115]) := by kernel_rfl
theorem at_67 : Str.ofString "_law_handed" = Str.mk (.mk [95, 108, 97, 119, 95, 104, 97, 110, 100, 101, 100]) := by kernel_rfl
theorem at_68 : Str.ofString "list" = Str.mk (.mk [108, 105, 115, 116]) := by kernel_rfl
theorem at_69 : Str.ofString "_law_found" = Str.mk (.mk [95, 108, 97, 119, 95, 102, 111, 117, 110, 100]) := by kernel_rfl
theorem at_70 : Str.ofString "answers" = Str.mk (.mk [97, 110, 115, 119, 101, 114, 115]) := by kernel_rfl
theorem at_71 : Str.ofString "isinstance" = Str.mk (.mk [105, 115, 105, 110, 115, 116, 97, 110, 99, 101]) := by kernel_rfl
theorem at_72 : Str.ofString "_law_none" = Str.mk (.mk [95, 108, 97, 119, 95, 110, 111, 110, 101]) := by kernel_rfl
theorem at_73 : Str.ofString "__name__" = Str.mk (.mk [95, 95, 110, 97, 109, 101, 95, 95]) := by kernel_rfl
theorem at_74 : Str.ofString "law_throwgate_k34_desk_deeds" = Str.mk (.mk [108, 97, 119, 95, 116, 104, 114, 111, 119, 103, 97, 116, 101, 95, 107, 51, 52, 95, 100, 101, 115, 107, 95, 100, 101, 101, 100, 115]) := by kernel_rfl
theorem at_75 : Str.ofString "_law_spread" = Str.mk (.mk [95, 108, 97, 119, 95, 115, 112, 114, 101, 97, 100]) := by kernel_rfl
theorem at_76 : Str.ofString "_law_cell" = Str.mk (.mk [95, 108, 97, 119, 95, 99, 101, 108, 108]) := by kernel_rfl
theorem at_77 : Str.ofString "_law_many" = Str.mk (.mk [95, 108, 97, 119, 95, 109, 97, 110, 121]) := by kernel_rfl
theorem at_78 : Str.ofString "_law_mixed" = Str.mk (.mk [95, 108, 97, 119, 95, 109, 105, 120, 101, 100]) := by kernel_rfl
theorem at_79 : Str.ofString "_law_row_here" = Str.mk (.mk [95, 108, 97, 119, 95, 114, 111, 119, 95, 104, 101, 114, 101]) := by kernel_rfl
theorem at_80 : Str.ofString "_law_left" = Str.mk (.mk [95, 108, 97, 119, 95, 108, 101, 102, 116]) := by kernel_rfl
theorem at_81 : Str.ofString "_law_once" = Str.mk (.mk [95, 108, 97, 119, 95, 111, 110, 99, 101]) := by kernel_rfl
theorem at_82 : Str.ofString "_law_menu" = Str.mk (.mk [95, 108, 97, 119, 95, 109, 101, 110, 117]) := by kernel_rfl
theorem at_83 : Str.ofString "_law_draw" = Str.mk (.mk [95, 108, 97, 119, 95, 100, 114, 97, 119]) := by kernel_rfl
theorem at_84 : Str.ofString "_law_at" = Str.mk (.mk [95, 108, 97, 119, 95, 97, 116]) := by kernel_rfl
theorem at_85 : Str.ofString "_law_pool" = Str.mk (.mk [95, 108, 97, 119, 95, 112, 111, 111, 108]) := by kernel_rfl
theorem at_86 : Str.ofString "_law_kind" = Str.mk (.mk [95, 108, 97, 119, 95, 107, 105, 110, 100]) := by kernel_rfl
theorem at_87 : Str.ofString "_law_line" = Str.mk (.mk [95, 108, 97, 119, 95, 108, 105, 110, 101]) := by kernel_rfl
theorem at_88 : Str.ofString "_law_any_two" = Str.mk (.mk [95, 108, 97, 119, 95, 97, 110, 121, 95, 116, 119, 111]) := by kernel_rfl
theorem at_89 : Str.ofString "most_row" = Str.mk (.mk [109, 111, 115, 116, 95, 114, 111, 119]) := by kernel_rfl
theorem at_90 : Str.ofString "beach" = Str.mk (.mk [98, 101, 97, 99, 104]) := by kernel_rfl
theorem at_91 : Str.ofString "words" = Str.mk (.mk [119, 111, 114, 100, 115]) := by kernel_rfl
theorem at_92 : Str.ofString "check_many" = Str.mk (.mk [99, 104, 101, 99, 107, 95, 109, 97, 110, 121]) := by kernel_rfl
theorem at_93 : Str.ofString "told" = Str.mk (.mk [116, 111, 108, 100]) := by kernel_rfl
theorem at_94 : Str.ofString "most" = Str.mk (.mk [109, 111, 115, 116]) := by kernel_rfl
theorem at_95 : Str.ofString "number_words" = Str.mk (.mk [110, 117, 109, 98, 101, 114, 95, 119, 111, 114, 100, 115]) := by kernel_rfl
theorem at_96 : Str.ofString "throw" = Str.mk (.mk [116, 104, 114, 111, 119]) := by kernel_rfl
theorem at_97 : Str.ofString "throw_words" = Str.mk (.mk [116, 104, 114, 111, 119, 95, 119, 111, 114, 100, 115]) := by kernel_rfl
theorem at_98 : Str.ofString "passed_row" = Str.mk (.mk [112, 97, 115, 115, 101, 100, 95, 114, 111, 119]) := by kernel_rfl
theorem at_99 : Str.ofString "height" = Str.mk (.mk [104, 101, 105, 103, 104, 116]) := by kernel_rfl
theorem Ql : Str.ofString "read_fraction" = Str.mk (.mk [114, 101, 97, 100, 95, 102, 114, 97, 99, 116, 105, 111, 110]) := by kernel_rfl
theorem SR : Str.ofString "rise" = Str.mk (.mk [114, 105, 115, 101]) := by kernel_rfl
theorem Tp : Str.ofString "passed" = Str.mk (.mk [112, 97, 115, 115, 101, 100]) := by kernel_rfl
theorem P6 : Str.ofString "ROWS" = Str.mk (.mk [82, 79, 87, 83]) := by kernel_rfl
theorem RH : Str.ofString "through" = Str.mk (.mk [116, 104, 114, 111, 117, 103, 104]) := by kernel_rfl
theorem S1 : Str.ofString "steepest" = Str.mk (.mk [115, 116, 101, 101, 112, 101, 115, 116]) := by kernel_rfl
theorem PX : Str.ofString "flattest" = Str.mk (.mk [102, 108, 97, 116, 116, 101, 115, 116]) := by kernel_rfl
theorem SY : Str.ofString "runs" = Str.mk (.mk [114, 117, 110, 115]) := by kernel_rfl
theorem Rt : Str.ofString "put_row" = Str.mk (.mk [112, 117, 116, 95, 114, 111, 119]) := by kernel_rfl
theorem T8 : Str.ofString "take_row" = Str.mk (.mk [116, 97, 107, 101, 95, 114, 111, 119]) := by kernel_rfl
theorem TQ : Str.ofString "lift_row" = Str.mk (.mk [108, 105, 102, 116, 95, 114, 111, 119]) := by kernel_rfl
theorem Rf : Str.ofString "sink_row" = Str.mk (.mk [115, 105, 110, 107, 95, 114, 111, 119]) := by kernel_rfl
theorem Qj : Str.ofString "back_row" = Str.mk (.mk [98, 97, 99, 107, 95, 114, 111, 119]) := by kernel_rfl
theorem TX : Str.ofString "deeds_row" = Str.mk (.mk [100, 101, 101, 100, 115, 95, 114, 111, 119]) := by kernel_rfl
theorem Qp : Str.ofString "gates_row" = Str.mk (.mk [103, 97, 116, 101, 115, 95, 114, 111, 119]) := by kernel_rfl
theorem Rg : Str.ofString "through_row" = Str.mk (.mk [116, 104, 114, 111, 117, 103, 104, 95, 114, 111, 119]) := by kernel_rfl
theorem RB : Str.ofString "steepest_row" = Str.mk (.mk [115, 116, 101, 101, 112, 101, 115, 116, 95, 114, 111, 119]) := by kernel_rfl
theorem S5 : Str.ofString "flattest_row" = Str.mk (.mk [102, 108, 97, 116, 116, 101, 115, 116, 95, 114, 111, 119]) := by kernel_rfl
theorem SG : Str.ofString "runs_row" = Str.mk (.mk [114, 117, 110, 115, 95, 114, 111, 119]) := by kernel_rfl
theorem R7 : Str.ofString "row_told" = Str.mk (.mk [114, 111, 119, 95, 116, 111, 108, 100]) := by kernel_rfl
theorem RP : Str.ofString "row" = Str.mk (.mk [114, 111, 119]) := by kernel_rfl
theorem Q4 : Str.ofString "split" = Str.mk (.mk [115, 112, 108, 105, 116]) := by kernel_rfl
theorem SL : Str.ofString "asked" = Str.mk (.mk [97, 115, 107, 101, 100]) := by kernel_rfl
theorem Sy : Str.ofString "BadRow" = Str.mk (.mk [66, 97, 100, 82, 111, 119]) := by kernel_rfl
theorem Rv : Str.ofString "the desk does not know this word" = Str.mk (.mk [116, 104, 101, 32, 100, 101, 115, 107, 32, 100, 111, 101, 115, 32, 110, 111, 116, 32, 107, 110, 111, 119, 32, 116, 104, 105, 115, 32, 119, 111, 114, 100]) := by kernel_rfl
theorem Ps : Str.ofString "row_answer" = Str.mk (.mk [114, 111, 119, 95, 97, 110, 115, 119, 101, 114]) := by kernel_rfl
theorem S4 : Str.ofString "NoGate" = Str.mk (.mk [78, 111, 71, 97, 116, 101]) := by kernel_rfl
theorem QD : Str.ofString "refused: no gate" = Str.mk (.mk [114, 101, 102, 117, 115, 101, 100, 58, 32, 110, 111, 32, 103, 97, 116, 101]) := by kernel_rfl
theorem SF : Str.ofString "Taken" = Str.mk (.mk [84, 97, 107, 101, 110]) := by kernel_rfl
theorem P7 : Str.ofString "refused: taken" = Str.mk (.mk [114, 101, 102, 117, 115, 101, 100, 58, 32, 116, 97, 107, 101, 110]) := by kernel_rfl
theorem Ro : Str.ofString "UpsideDown" = Str.mk (.mk [85, 112, 115, 105, 100, 101, 68, 111, 119, 110]) := by kernel_rfl
theorem SB : Str.ofString "refused: upside down" = Str.mk (.mk [114, 101, 102, 117, 115, 101, 100, 58, 32, 117, 112, 115, 105, 100, 101, 32, 100, 111, 119, 110]) := by kernel_rfl
theorem TR : Str.ofString "OutOfBounds" = Str.mk (.mk [79, 117, 116, 79, 102, 66, 111, 117, 110, 100, 115]) := by kernel_rfl
theorem QO : Str.ofString "refused: out of bounds" = Str.mk (.mk [114, 101, 102, 117, 115, 101, 100, 58, 32, 111, 117, 116, 32, 111, 102, 32, 98, 111, 117, 110, 100, 115]) := by kernel_rfl
theorem R6 : Str.ofString "BeachFull" = Str.mk (.mk [66, 101, 97, 99, 104, 70, 117, 108, 108]) := by kernel_rfl
theorem TZ : Str.ofString "refused: beach full" = Str.mk (.mk [114, 101, 102, 117, 115, 101, 100, 58, 32, 98, 101, 97, 99, 104, 32, 102, 117, 108, 108]) := by kernel_rfl
theorem Th : Str.ofString "DeedsFull" = Str.mk (.mk [68, 101, 101, 100, 115, 70, 117, 108, 108]) := by kernel_rfl
theorem RL : Str.ofString "refused: deeds full" = Str.mk (.mk [114, 101, 102, 117, 115, 101, 100, 58, 32, 100, 101, 101, 100, 115, 32, 102, 117, 108, 108]) := by kernel_rfl
theorem Pf : Str.ofString "NothingBack" = Str.mk (.mk [78, 111, 116, 104, 105, 110, 103, 66, 97, 99, 107]) := by kernel_rfl
theorem Rp : Str.ofString "refused: nothing back" = Str.mk (.mk [114, 101, 102, 117, 115, 101, 100, 58, 32, 110, 111, 116, 104, 105, 110, 103, 32, 98, 97, 99, 107]) := by kernel_rfl
theorem Tk : Str.ofString "BadList" = Str.mk (.mk [66, 97, 100, 76, 105, 115, 116]) := by kernel_rfl
theorem TM : Str.ofString "refused: bad list" = Str.mk (.mk [114, 101, 102, 117, 115, 101, 100, 58, 32, 98, 97, 100, 32, 108, 105, 115, 116]) := by kernel_rfl
theorem Rn : Str.ofString "TooFew" = Str.mk (.mk [84, 111, 111, 70, 101, 119]) := by kernel_rfl
theorem SZ : Str.ofString "refused: too few" = Str.mk (.mk [114, 101, 102, 117, 115, 101, 100, 58, 32, 116, 111, 111, 32, 102, 101, 119]) := by kernel_rfl
theorem Qs : Str.ofString "WrongSize" = Str.mk (.mk [87, 114, 111, 110, 103, 83, 105, 122, 101]) := by kernel_rfl
theorem Rm : Str.ofString "refused: wrong size" = Str.mk (.mk [114, 101, 102, 117, 115, 101, 100, 58, 32, 119, 114, 111, 110, 103, 32, 115, 105, 122, 101]) := by kernel_rfl
theorem QI : Str.ofString "BadThrow" = Str.mk (.mk [66, 97, 100, 84, 104, 114, 111, 119]) := by kernel_rfl
theorem Qx : Str.ofString "refused: bad throw" = Str.mk (.mk [114, 101, 102, 117, 115, 101, 100, 58, 32, 98, 97, 100, 32, 116, 104, 114, 111, 119]) := by kernel_rfl
theorem TN : Str.ofString "Desk" = Str.mk (.mk [68, 101, 115, 107]) := by kernel_rfl
theorem Rh : Str.ofString "__init__" = Str.mk (.mk [95, 95, 105, 110, 105, 116, 95, 95]) := by kernel_rfl
theorem R4 : Str.ofString "self" = Str.mk (.mk [115, 101, 108, 102]) := by kernel_rfl
theorem Tn : Str.ofString "Beach" = Str.mk (.mk [66, 101, 97, 99, 104]) := by kernel_rfl
theorem QZ : Str.ofString "answer" = Str.mk (.mk [97, 110, 115, 119, 101, 114]) := by kernel_rfl
theorem Ru : Str.ofString "rows" = Str.mk (.mk [114, 111, 119, 115]) := by kernel_rfl
theorem SU : Str.ofString "desk" = Str.mk (.mk [100, 101, 115, 107]) := by kernel_rfl
theorem RG : Str.ofString "deeds_text" = Str.mk (.mk [100, 101, 101, 100, 115, 95, 116, 101, 120, 116]) := by kernel_rfl
theorem TL : Str.ofString "gate" = Str.mk (.mk [103, 97, 116, 101]) := by kernel_rfl
theorem Tz : Str.ofString "through_text" = Str.mk (.mk [116, 104, 114, 111, 117, 103, 104, 95, 116, 101, 120, 116]) := by kernel_rfl
theorem Pq : Str.ofString "read_numbers" = Str.mk (.mk [114, 101, 97, 100, 95, 110, 117, 109, 98, 101, 114, 115]) := by kernel_rfl
theorem Qi : Str.ofString "foot" = Str.mk (.mk [102, 111, 111, 116]) := by kernel_rfl
theorem RA : Str.ofString "head" = Str.mk (.mk [104, 101, 97, 100]) := by kernel_rfl
theorem Pr : Str.ofString "run_word" = Str.mk (.mk [114, 117, 110, 95, 119, 111, 114, 100]) := by kernel_rfl
theorem R9 : Str.ofString "run" = Str.mk (.mk [114, 117, 110]) := by kernel_rfl
theorem SV : Str.ofString "ends" = Str.mk (.mk [101, 110, 100, 115]) := by kernel_rfl
theorem Sf : Str.ofString "bar" = Str.mk (.mk [98, 97, 114]) := by kernel_rfl
theorem Qc : Str.ofString "end" = Str.mk (.mk [101, 110, 100]) := by kernel_rfl
theorem Qu : Str.ofString "place" = Str.mk (.mk [112, 108, 97, 99, 101]) := by kernel_rfl
theorem SS : Str.ofString "zip" = Str.mk (.mk [122, 105, 112]) := by kernel_rfl
theorem Qa : Str.ofString "numbers" = Str.mk (.mk [110, 117, 109, 98, 101, 114, 115]) := by kernel_rfl
theorem Tj : Str.ofString "read_so_many" = Str.mk (.mk [114, 101, 97, 100, 95, 115, 111, 95, 109, 97, 110, 121]) := by kernel_rfl
theorem SJ : Str.ofString "gate_text" = Str.mk (.mk [103, 97, 116, 101, 95, 116, 101, 120, 116]) := by kernel_rfl
theorem Rx : Str.ofString "read_number" = Str.mk (.mk [114, 101, 97, 100, 95, 110, 117, 109, 98, 101, 114]) := by kernel_rfl
theorem RS : Str.ofString "word" = Str.mk (.mk [119, 111, 114, 100]) := by kernel_rfl
theorem Sh : Str.ofString "many" = Str.mk (.mk [109, 97, 110, 121]) := by kernel_rfl
theorem Qh : Str.ofString "number" = Str.mk (.mk [110, 117, 109, 98, 101, 114]) := by kernel_rfl
theorem Si : Str.ofString "write_fraction" = Str.mk (.mk [119, 114, 105, 116, 101, 95, 102, 114, 97, 99, 116, 105, 111, 110]) := by kernel_rfl
theorem Rl : Str.ofString "MOST_FIGURES" = Str.mk (.mk [77, 79, 83, 84, 95, 70, 73, 71, 85, 82, 69, 83]) := by kernel_rfl
theorem QF : Str.ofString "are_figures" = Str.mk (.mk [97, 114, 101, 95, 102, 105, 103, 117, 114, 101, 115]) := by kernel_rfl
theorem Pj : Str.ofString "text" = Str.mk (.mk [116, 101, 120, 116]) := by kernel_rfl
theorem Ts : Str.ofString "all" = Str.mk (.mk [97, 108, 108]) := by kernel_rfl
theorem T2 : Str.ofString "sign" = Str.mk (.mk [115, 105, 103, 110]) := by kernel_rfl
theorem Pz : Str.ofString "FIGURES" = Str.mk (.mk [70, 73, 71, 85, 82, 69, 83]) := by kernel_rfl
theorem Pc : Str.ofString "0" = Str.mk (.mk [48]) := by kernel_rfl
theorem RO : Str.ofString "figures" = Str.mk (.mk [102, 105, 103, 117, 114, 101, 115]) := by kernel_rfl
theorem SD : Str.ofString "startswith" = Str.mk (.mk [115, 116, 97, 114, 116, 115, 119, 105, 116, 104]) := by kernel_rfl
theorem SN : Str.ofString "-" = Str.mk (.mk [45]) := by kernel_rfl
theorem QN : Str.ofString "this is not how a number is written" = Str.mk (.mk [116, 104, 105, 115, 32, 105, 115, 32, 110, 111, 116, 32, 104, 111, 119, 32, 97, 32, 110, 117, 109, 98, 101, 114, 32, 105, 115, 32, 119, 114, 105, 116, 116, 101, 110]) := by kernel_rfl
theorem Ry : Str.ofString "parts" = Str.mk (.mk [112, 97, 114, 116, 115]) := by kernel_rfl
theorem Qq : Str.ofString "/" = Str.mk (.mk [47]) := by kernel_rfl
theorem Pp : Str.ofString "a fraction has one stroke at most" = Str.mk (.mk [97, 32, 102, 114, 97, 99, 116, 105, 111, 110, 32, 104, 97, 115, 32, 111, 110, 101, 32, 115, 116, 114, 111, 107, 101, 32, 97, 116, 32, 109, 111, 115, 116]) := by kernel_rfl
theorem P4 : Str.ofString "top" = Str.mk (.mk [116, 111, 112]) := by kernel_rfl
theorem UC : Str.ofString "bottom" = Str.mk (.mk [98, 111, 116, 116, 111, 109]) := by kernel_rfl
theorem Qk : Str.ofString "fraction" = Str.mk (.mk [102, 114, 97, 99, 116, 105, 111, 110]) := by kernel_rfl
theorem RI : Str.ofString "lowest" = Str.mk (.mk [108, 111, 119, 101, 115, 116]) := by kernel_rfl
theorem P8 : Str.ofString "throwgate.desk" = Str.mk (.mk [116, 104, 114, 111, 119, 103, 97, 116, 101, 46, 100, 101, 115, 107]) := by kernel_rfl
theorem Q3 : Str.ofString "too few or too many words" = Str.mk (.mk [116, 111, 111, 32, 102, 101, 119, 32, 111, 114, 32, 116, 111, 111, 32, 109, 97, 110, 121, 32, 119, 111, 114, 100, 115]) := by kernel_rfl
theorem Py : Str.ofString "check_gate" = Str.mk (.mk [99, 104, 101, 99, 107, 95, 103, 97, 116, 101]) := by kernel_rfl
theorem RJ : Str.ofString "the foot would be above the head" = Str.mk (.mk [116, 104, 101, 32, 102, 111, 111, 116, 32, 119, 111, 117, 108, 100, 32, 98, 101, 32, 97, 98, 111, 118, 101, 32, 116, 104, 101, 32, 104, 101, 97, 100]) := by kernel_rfl
theorem QW : Str.ofString "LEAST" = Str.mk (.mk [76, 69, 65, 83, 84]) := by kernel_rfl
theorem T7 : Str.ofString "GREATEST" = Str.mk (.mk [71, 82, 69, 65, 84, 69, 83, 84]) := by kernel_rfl
theorem RX : Str.ofString "a place, foot or head would be out of bounds" = Str.mk (.mk [97, 32, 112, 108, 97, 99, 101, 44, 32, 102, 111, 111, 116, 32, 111, 114, 32, 104, 101, 97, 100, 32, 119, 111, 117, 108, 100, 32, 98, 101, 32, 111, 117, 116, 32, 111, 102, 32, 98, 111, 117, 110, 100, 115]) := by kernel_rfl
theorem Sz : Str.ofString "check_places" = Str.mk (.mk [99, 104, 101, 99, 107, 95, 112, 108, 97, 99, 101, 115]) := by kernel_rfl
theorem Rq : Str.ofString "places" = Str.mk (.mk [112, 108, 97, 99, 101, 115]) := by kernel_rfl
theorem RQ : Str.ofString "the list has no place" = Str.mk (.mk [116, 104, 101, 32, 108, 105, 115, 116, 32, 104, 97, 115, 32, 110, 111, 32, 112, 108, 97, 99, 101]) := by kernel_rfl
theorem Qo : Str.ofString "MOST_GATES" = Str.mk (.mk [77, 79, 83, 84, 95, 71, 65, 84, 69, 83]) := by kernel_rfl
theorem R5 : Str.ofString "the list has too many places" = Str.mk (.mk [116, 104, 101, 32, 108, 105, 115, 116, 32, 104, 97, 115, 32, 116, 111, 111, 32, 109, 97, 110, 121, 32, 112, 108, 97, 99, 101, 115]) := by kernel_rfl
theorem SO : Str.ofString "set" = Str.mk (.mk [115, 101, 116]) := by kernel_rfl
theorem Sc : Str.ofString "the list has a place twice" = Str.mk (.mk [116, 104, 101, 32, 108, 105, 115, 116, 32, 104, 97, 115, 32, 97, 32, 112, 108, 97, 99, 101, 32, 116, 119, 105, 99, 101]) := by kernel_rfl
theorem TF : Str.ofString "check_throw" = Str.mk (.mk [99, 104, 101, 99, 107, 95, 116, 104, 114, 111, 119]) := by kernel_rfl
theorem Tb : Str.ofString "a bottom is below 1" = Str.mk (.mk [97, 32, 98, 111, 116, 116, 111, 109, 32, 105, 115, 32, 98, 101, 108, 111, 119, 32, 49]) := by kernel_rfl
theorem R0 : Str.ofString "GREAT_NUMBER" = Str.mk (.mk [71, 82, 69, 65, 84, 95, 78, 85, 77, 66, 69, 82]) := by kernel_rfl
theorem S8 : Str.ofString "a number of the throw is too great" = Str.mk (.mk [97, 32, 110, 117, 109, 98, 101, 114, 32, 111, 102, 32, 116, 104, 101, 32, 116, 104, 114, 111, 119, 32, 105, 115, 32, 116, 111, 111, 32, 103, 114, 101, 97, 116]) := by kernel_rfl
theorem RN : Str.ofString "standing" = Str.mk (.mk [115, 116, 97, 110, 100, 105, 110, 103]) := by kernel_rfl
theorem SH : Str.ofString "past" = Str.mk (.mk [112, 97, 115, 116]) := by kernel_rfl
theorem Sa : Str.ofString "has_gate" = Str.mk (.mk [104, 97, 115, 95, 103, 97, 116, 101]) := by kernel_rfl
theorem Td : Str.ofString "gate_at" = Str.mk (.mk [103, 97, 116, 101, 95, 97, 116]) := by kernel_rfl
theorem RT : Str.ofString "no gate stands at this place" = Str.mk (.mk [110, 111, 32, 103, 97, 116, 101, 32, 115, 116, 97, 110, 100, 115, 32, 97, 116, 32, 116, 104, 105, 115, 32, 112, 108, 97, 99, 101]) := by kernel_rfl
theorem Sw : Str.ofString "do_deed" = Str.mk (.mk [100, 111, 95, 100, 101, 101, 100]) := by kernel_rfl
theorem Ti : Str.ofString "instead" = Str.mk (.mk [105, 110, 115, 116, 101, 97, 100]) := by kernel_rfl
theorem QJ : Str.ofString "MOST_DEEDS" = Str.mk (.mk [77, 79, 83, 84, 95, 68, 69, 69, 68, 83]) := by kernel_rfl
theorem Rr : Str.ofString "no more deeds may stand" = Str.mk (.mk [110, 111, 32, 109, 111, 114, 101, 32, 100, 101, 101, 100, 115, 32, 109, 97, 121, 32, 115, 116, 97, 110, 100]) := by kernel_rfl
theorem P9 : Str.ofString "others" = Str.mk (.mk [111, 116, 104, 101, 114, 115]) := by kernel_rfl
theorem TY : Str.ofString "a gate stands at this place already" = Str.mk (.mk [97, 32, 103, 97, 116, 101, 32, 115, 116, 97, 110, 100, 115, 32, 97, 116, 32, 116, 104, 105, 115, 32, 112, 108, 97, 99, 101, 32, 97, 108, 114, 101, 97, 100, 121]) := by kernel_rfl
theorem QT : Str.ofString "no more gates may stand" = Str.mk (.mk [110, 111, 32, 109, 111, 114, 101, 32, 103, 97, 116, 101, 115, 32, 109, 97, 121, 32, 115, 116, 97, 110, 100]) := by kernel_rfl
theorem RC : Str.ofString "foot_by" = Str.mk (.mk [102, 111, 111, 116, 95, 98, 121]) := by kernel_rfl
theorem Pi : Str.ofString "head_by" = Str.mk (.mk [104, 101, 97, 100, 95, 98, 121]) := by kernel_rfl
theorem PZ : Str.ofString "before" = Str.mk (.mk [98, 101, 102, 111, 114, 101]) := by kernel_rfl
theorem QL : Str.ofString "one deed is the least that is taken back" = Str.mk (.mk [111, 110, 101, 32, 100, 101, 101, 100, 32, 105, 115, 32, 116, 104, 101, 32, 108, 101, 97, 115, 116, 32, 116, 104, 97, 116, 32, 105, 115, 32, 116, 97, 107, 101, 110, 32, 98, 97, 99, 107]) := by kernel_rfl
theorem Ri : Str.ofString "fewer deeds stand" = Str.mk (.mk [102, 101, 119, 101, 114, 32, 100, 101, 101, 100, 115, 32, 115, 116, 97, 110, 100]) := by kernel_rfl
theorem S6 : Str.ofString "left" = Str.mk (.mk [108, 101, 102, 116]) := by kernel_rfl
theorem TB : Str.ofString "gates_at" = Str.mk (.mk [103, 97, 116, 101, 115, 95, 97, 116]) := by kernel_rfl
theorem Q9 : Str.ofString "two_gates_at" = Str.mk (.mk [116, 119, 111, 95, 103, 97, 116, 101, 115, 95, 97, 116]) := by kernel_rfl
theorem Rb : Str.ofString "one gate alone has no steepest and no flattest throw" = Str.mk (.mk [111, 110, 101, 32, 103, 97, 116, 101, 32, 97, 108, 111, 110, 101, 32, 104, 97, 115, 32, 110, 111, 32, 115, 116, 101, 101, 112, 101, 115, 116, 32, 97, 110, 100, 32, 110, 111, 32, 102, 108, 97, 116, 116, 101, 115, 116, 32, 116, 104, 114, 111, 119]) := by kernel_rfl
theorem Qr : Str.ofString "throw_through" = Str.mk (.mk [116, 104, 114, 111, 119, 95, 116, 104, 114, 111, 117, 103, 104]) := by kernel_rfl
theorem Qv : Str.ofString "steepest_throw" = Str.mk (.mk [115, 116, 101, 101, 112, 101, 115, 116, 95, 116, 104, 114, 111, 119]) := by kernel_rfl
theorem SC : Str.ofString "flattest_throw" = Str.mk (.mk [102, 108, 97, 116, 116, 101, 115, 116, 95, 116, 104, 114, 111, 119]) := by kernel_rfl
theorem RE : Str.ofString "fewest_runs" = Str.mk (.mk [102, 101, 119, 101, 115, 116, 95, 114, 117, 110, 115]) := by kernel_rfl
theorem QC : Str.ofString "SMALL_BEACH" = Str.mk (.mk [83, 77, 65, 76, 76, 95, 66, 69, 65, 67, 72]) := by kernel_rfl
theorem T5 : Str.ofString "the most are told of a small beach that is not empty" = Str.mk (.mk [116, 104, 101, 32, 109, 111, 115, 116, 32, 97, 114, 101, 32, 116, 111, 108, 100, 32, 111, 102, 32, 97, 32, 115, 109, 97, 108, 108, 32, 98, 101, 97, 99, 104, 32, 116, 104, 97, 116, 32, 105, 115, 32, 110, 111, 116, 32, 101, 109, 112, 116, 121]) := by kernel_rfl
theorem Pm : Str.ofString "most_gates" = Str.mk (.mk [109, 111, 115, 116, 95, 103, 97, 116, 101, 115]) := by kernel_rfl
theorem SX : Str.ofString "places_passed" = Str.mk (.mk [112, 108, 97, 99, 101, 115, 95, 112, 97, 115, 115, 101, 100]) := by kernel_rfl
theorem S7 : Str.ofString "throwgate.texts" = Str.mk (.mk [116, 104, 114, 111, 119, 103, 97, 116, 101, 46, 116, 101, 120, 116, 115]) := by kernel_rfl
theorem SK : Str.ofString "0123456789" = Str.mk (.mk [48, 49, 50, 51, 52, 53, 54, 55, 56, 57]) := by kernel_rfl
theorem P0 : Str.ofString "throwgate.shore" = Str.mk (.mk [116, 104, 114, 111, 119, 103, 97, 116, 101, 46, 115, 104, 111, 114, 101]) := by kernel_rfl
theorem Qz : Str.ofString "run_told" = Str.mk (.mk [114, 117, 110, 95, 116, 111, 108, 100]) := by kernel_rfl
theorem R1 : Str.ofString "longer" = Str.mk (.mk [108, 111, 110, 103, 101, 114]) := by kernel_rfl
theorem UI : Str.ofString "longer_throw" = Str.mk (.mk [108, 111, 110, 103, 101, 114, 95, 116, 104, 114, 111, 119]) := by kernel_rfl
theorem Se : Str.ofString "common_throw" = Str.mk (.mk [99, 111, 109, 109, 111, 110, 95, 116, 104, 114, 111, 119]) := by kernel_rfl
theorem Sq : Str.ofString "throwgate.small" = Str.mk (.mk [116, 104, 114, 111, 119, 103, 97, 116, 101, 46, 115, 109, 97, 108, 108]) := by kernel_rfl
theorem RZ : Str.ofString "tried_throws" = Str.mk (.mk [116, 114, 105, 101, 100, 95, 116, 104, 114, 111, 119, 115]) := by kernel_rfl
theorem Su : Str.ofString "ordered" = Str.mk (.mk [111, 114, 100, 101, 114, 101, 100]) := by kernel_rfl
theorem TW : Str.ofString "throws" = Str.mk (.mk [116, 104, 114, 111, 119, 115]) := by kernel_rfl
theorem Q7 : Str.ofString "index" = Str.mk (.mk [105, 110, 100, 101, 120]) := by kernel_rfl
theorem Tl : Str.ofString "earlier" = Str.mk (.mk [101, 97, 114, 108, 105, 101, 114]) := by kernel_rfl
theorem So : Str.ofString "enumerate" = Str.mk (.mk [101, 110, 117, 109, 101, 114, 97, 116, 101]) := by kernel_rfl
theorem QB : Str.ofString "later" = Str.mk (.mk [108, 97, 116, 101, 114]) := by kernel_rfl
theorem UE : Str.ofString "line_by" = Str.mk (.mk [108, 105, 110, 101, 95, 98, 121]) := by kernel_rfl
theorem Qe : Str.ofString "tried" = Str.mk (.mk [116, 114, 105, 101, 100]) := by kernel_rfl
theorem UG : Str.ofString "key" = Str.mk (.mk [107, 101, 121]) := by kernel_rfl
theorem Pa : Str.ofString "throwgate.beach" = Str.mk (.mk [116, 104, 114, 111, 119, 103, 97, 116, 101, 46, 98, 101, 97, 99, 104]) := by kernel_rfl
theorem R3 : Str.ofString "level_throw" = Str.mk (.mk [108, 101, 118, 101, 108, 95, 116, 104, 114, 111, 119]) := by kernel_rfl
theorem Qw : Str.ofString "found" = Str.mk (.mk [102, 111, 117, 110, 100]) := by kernel_rfl
theorem Tf : Str.ofString "steepest_found" = Str.mk (.mk [115, 116, 101, 101, 112, 101, 115, 116, 95, 102, 111, 117, 110, 100]) := by kernel_rfl
theorem Ph : Str.ofString "bar_told" = Str.mk (.mk [98, 97, 114, 95, 116, 111, 108, 100]) := by kernel_rfl
theorem PU : Str.ofString "first_three" = Str.mk (.mk [102, 105, 114, 115, 116, 95, 116, 104, 114, 101, 101]) := by kernel_rfl
theorem T3 : Str.ofString "turned_over" = Str.mk (.mk [116, 117, 114, 110, 101, 100, 95, 111, 118, 101, 114]) := by kernel_rfl
theorem TV : Str.ofString "turned_throw" = Str.mk (.mk [116, 117, 114, 110, 101, 100, 95, 116, 104, 114, 111, 119]) := by kernel_rfl
theorem T4 : Str.ofString "throwgate.lists" = Str.mk (.mk [116, 104, 114, 111, 119, 103, 97, 116, 101, 46, 108, 105, 115, 116, 115]) := by kernel_rfl
theorem Rs : Str.ofString "passes_all" = Str.mk (.mk [112, 97, 115, 115, 101, 115, 95, 97, 108, 108]) := by kernel_rfl
theorem QR : Str.ofString "passes" = Str.mk (.mk [112, 97, 115, 115, 101, 115]) := by kernel_rfl
theorem QX : Str.ofString "foot_to_head" = Str.mk (.mk [102, 111, 111, 116, 95, 116, 111, 95, 104, 101, 97, 100]) := by kernel_rfl
theorem UM : Str.ofString "tightest_pair" = Str.mk (.mk [116, 105, 103, 104, 116, 101, 115, 116, 95, 112, 97, 105, 114]) := by kernel_rfl
theorem PV : Str.ofString "pair" = Str.mk (.mk [112, 97, 105, 114]) := by kernel_rfl
theorem Sg : Str.ofString "compare" = Str.mk (.mk [99, 111, 109, 112, 97, 114, 101]) := by kernel_rfl
theorem Tr : Str.ofString "foot_place" = Str.mk (.mk [102, 111, 111, 116, 95, 112, 108, 97, 99, 101]) := by kernel_rfl
theorem Pk : Str.ofString "head_place" = Str.mk (.mk [104, 101, 97, 100, 95, 112, 108, 97, 99, 101]) := by kernel_rfl
theorem UA : Str.ofString "divisor" = Str.mk (.mk [100, 105, 118, 105, 115, 111, 114]) := by kernel_rfl
theorem Sk : Str.ofString "greatest_divisor" = Str.mk (.mk [103, 114, 101, 97, 116, 101, 115, 116, 95, 100, 105, 118, 105, 115, 111, 114]) := by kernel_rfl
theorem UL : Str.ofString "one" = Str.mk (.mk [111, 110, 101]) := by kernel_rfl
theorem Tv : Str.ofString "two" = Str.mk (.mk [116, 119, 111]) := by kernel_rfl
theorem Q5 : Str.ofString "right" = Str.mk (.mk [114, 105, 103, 104, 116]) := by kernel_rfl
theorem Sj : Str.ofString "throwgate.lines" = Str.mk (.mk [116, 104, 114, 111, 119, 103, 97, 116, 101, 46, 108, 105, 110, 101, 115]) := by kernel_rfl
theorem Ra : Str.ofString "height_at" = Str.mk (.mk [104, 101, 105, 103, 104, 116, 95, 97, 116]) := by kernel_rfl
theorem RW : Str.ofString "height_top" = Str.mk (.mk [104, 101, 105, 103, 104, 116, 95, 116, 111, 112]) := by kernel_rfl
theorem T0 : Str.ofString "height_bottom" = Str.mk (.mk [104, 101, 105, 103, 104, 116, 95, 98, 111, 116, 116, 111, 109]) := by kernel_rfl
theorem RF : Str.ofString "rise_top" = Str.mk (.mk [114, 105, 115, 101, 95, 116, 111, 112]) := by kernel_rfl
theorem Px : Str.ofString "rise_bottom" = Str.mk (.mk [114, 105, 115, 101, 95, 98, 111, 116, 116, 111, 109]) := by kernel_rfl
theorem Rz : Str.ofString "other" = Str.mk (.mk [111, 116, 104, 101, 114]) := by kernel_rfl
theorem Q0 : Str.ofString "second" = Str.mk (.mk [115, 101, 99, 111, 110, 100]) := by kernel_rfl
theorem QP : Str.ofString "steps" = Str.mk (.mk [115, 116, 101, 112, 115]) := by kernel_rfl
theorem UD : Str.ofString "gain" = Str.mk (.mk [103, 97, 105, 110]) := by kernel_rfl
theorem Q1 : Str.ofString "start" = Str.mk (.mk [115, 116, 97, 114, 116]) := by kernel_rfl
theorem Pb : Str.ofString "BeachError" = Str.mk (.mk [66, 101, 97, 99, 104, 69, 114, 114, 111, 114]) := by kernel_rfl
theorem QY : Str.ofString "throwgate.bars" = Str.mk (.mk [116, 104, 114, 111, 119, 103, 97, 116, 101, 46, 98, 97, 114, 115]) := by kernel_rfl
theorem Pe : Str.ofString "side_of_line" = Str.mk (.mk [115, 105, 100, 101, 95, 111, 102, 95, 108, 105, 110, 101]) := by kernel_rfl
theorem Ta : Str.ofString "barring" = Str.mk (.mk [98, 97, 114, 114, 105, 110, 103]) := by kernel_rfl
theorem TH : Str.ofString "three" = Str.mk (.mk [116, 104, 114, 101, 101]) := by kernel_rfl
theorem TD : Str.ofString "count" = Str.mk (.mk [99, 111, 117, 110, 116]) := by kernel_rfl
theorem Qf : Str.ofString "first" = Str.mk (.mk [102, 105, 114, 115, 116]) := by kernel_rfl
theorem Re : Str.ofString "middle" = Str.mk (.mk [109, 105, 100, 100, 108, 101]) := by kernel_rfl
theorem TK : Str.ofString "last" = Str.mk (.mk [108, 97, 115, 116]) := by kernel_rfl
theorem SI : Str.ofString "throwgate.fracs" = Str.mk (.mk [116, 104, 114, 111, 119, 103, 97, 116, 101, 46, 102, 114, 97, 99, 115]) := by kernel_rfl
theorem QG : Str.ofString "rest" = Str.mk (.mk [114, 101, 115, 116]) := by kernel_rfl
theorem SA : Str.ofString "next_rest" = Str.mk (.mk [110, 101, 120, 116, 95, 114, 101, 115, 116]) := by kernel_rfl
theorem RD : Str.ofString "throwgate.errors" = Str.mk (.mk [116, 104, 114, 111, 119, 103, 97, 116, 101, 46, 101, 114, 114, 111, 114, 115]) := by kernel_rfl
theorem Q2 : Str.ofString "ValueError" = Str.mk (.mk [86, 97, 108, 117, 101, 69, 114, 114, 111, 114]) := by kernel_rfl
theorem RK : Str.ofString "/claim/cut.py" = Str.mk (.mk [47, 99, 108, 97, 105, 109, 47, 99, 117, 116, 46, 112, 121]) := by kernel_rfl
noncomputable def Tw : PSigma fun t : Program => PySem.Challenge.pw_throwgate_k34_desk_deeds = t := by
 have h := Gq
 simp only [EqA, at_0, at_1, at_2, at_3, at_4, at_5, at_6, at_7, at_8, at_9, at_10, at_11, at_12, at_13, at_14, at_15, at_16, at_17, at_18, at_19, at_20, at_21, at_22, at_23, at_24, at_25, at_26, at_27, at_28, at_29, at_30, at_31, at_32, at_33, at_34, at_35, at_36, at_37, at_38, at_39, at_40, at_41, at_42, at_43, at_44, at_45, at_46, at_47, at_48, at_49, at_50, at_51, at_52, at_53, at_54, at_55, at_56, at_57, at_58, at_59, at_60, at_61, at_62, at_63, at_64, at_65, at_66, at_67, at_68, at_69, at_70, at_71, at_72, at_73, at_74, at_75, at_76, at_77, at_78, at_79, at_80, at_81, at_82, at_83, at_84, at_85, at_86, at_87, at_88, at_89, at_90, at_91, at_92, at_93, at_94, at_95, at_96, at_97, at_98, at_99, Ql, SR, Tp, P6, RH, S1, PX, SY, Rt, T8, TQ, Rf, Qj, TX, Qp, Rg, RB, S5, SG, R7, RP, Q4, SL, Sy, Rv, Ps, S4, QD, SF, P7, Ro, SB, TR, QO, R6, TZ, Th, RL, Pf, Rp, Tk, TM, Rn, SZ, Qs, Rm, QI, Qx, TN, Rh, R4, Tn, QZ, Ru, SU, RG, TL, Tz, Pq, Qi, RA, Pr, R9, SV, Sf, Qc, Qu, SS, Qa, Tj, SJ, Rx, RS, Sh, Qh, Si, Rl, QF, Pj, Ts, T2, Pz, Pc, RO, SD, SN, QN, Ry, Qq, Pp, P4, UC, Qk, RI, P8, Q3, Py, RJ, QW, T7, RX, Sz, Rq, RQ, Qo, R5, SO, Sc, TF, Tb, R0, S8, RN, SH, Sa, Td, RT, Sw, Ti, QJ, Rr, P9, TY, QT, RC, Pi, PZ, QL, Ri, S6, TB, Q9, Rb, Qr, Qv, SC, RE, QC, T5, Pm, SX, S7, SK, P0, Qz, R1, UI, Se, Sq, RZ, Su, TW, Q7, Tl, So, QB, UE, Qe, UG, Pa, R3, Qw, Tf, Ph, PU, T3, TV, T4, Rs, QR, QX, UM, PV, Sg, Tr, Pk, UA, Sk, UL, Tv, Q5, Sj, Ra, RW, T0, RF, Px, Rz, Q0, QP, UD, Q1, Pb, QY, Pe, Ta, TH, TD, Qf, Re, TK, SI, QG, SA, RD, Q2, RK] at h
 exact ⟨_, h⟩
noncomputable def _root_.PySem.W.Fast.tw5475494283779056664 : PySem.Program := TG.Tw.1
theorem _root_.PySem.W.Fast.te5475494283779056664 : PySem.Challenge.pw_throwgate_k34_desk_deeds = PySem.W.Fast.tw5475494283779056664 := TG.Tw.2
set_option hygiene false
local macro_rules | `(tactic| walk_at "NX") => `(tactic| (refine hM _ _ ?_; clear hM; clear M))
local macro_rules | `(tactic| walk_at "Q") => `(tactic| (refine Mu fun M hM => ?_))
local macro_rules | `(tactic| walk_at "LN") => `(tactic| (first | (obtain ⟨rfl, _⟩ := h; rfl) | (obtain ⟨_, h⟩ := h; walk_at "LN")))
local macro_rules | `(tactic| walk_at "I2") => `(tactic| (intro cdv A outer s H vs Q E hr h; have hu := hu_of hr))
local macro_rules | `(tactic| walk_at "b1") => `(tactic| (obtain ⟨x0, rfl⟩ := Mn hl; rfl))
local macro_rules | `(tactic| walk_at "b2") => `(tactic| (obtain ⟨x0, x1, rfl⟩ := UK hl; rfl))
local macro_rules | `(tactic| walk_at "b3") => `(tactic| (obtain ⟨x0, x1, x2, rfl⟩ := NN hl; rfl))
local macro_rules | `(tactic| walk_at "b4") => `(tactic| (obtain ⟨x0, x1, x2, x3, rfl⟩ := len4 hl; rfl))
local macro_rules | `(tactic| walk_at "SC") => `(tactic| (exact ⟨rfl, rfl, rfl, by decide +kernel, rfl, by decide +kernel, by decide +kernel⟩))
local macro_rules | `(tactic| walk_at "SQT0") => `(tactic| (first | with_reducible assumption | exact SqT.of (by with_reducible assumption)))
local macro_rules | `(tactic| walk_at "SQL0") => `(tactic| (first | with_reducible assumption | exact SqL.of (by with_reducible assumption)))
local macro_rules | `(tactic| walk_at "SAT0") => `(tactic| (with_reducible assumption))
local macro_rules | `(tactic| walk_at "SQT1") => `(tactic| (first | with_reducible assumption | exact SqT.of (by with_reducible assumption) | exact AH.tup (by with_reducible assumption) (by walk_at "SQT0")))
local macro_rules | `(tactic| walk_at "SQL1") => `(tactic| (first | with_reducible assumption | exact SqL.of (by with_reducible assumption) | exact AH.seq (by with_reducible assumption) (by walk_at "SQL0")))
local macro_rules | `(tactic| walk_at "SAT1") => `(tactic| (first | with_reducible assumption | exact AH.get (by with_reducible assumption) (by walk_at "SAT0")))
local macro_rules | `(tactic| walk_at "SQT2") => `(tactic| (first | with_reducible assumption | exact SqT.of (by with_reducible assumption) | exact AH.tup (by with_reducible assumption) (by walk_at "SQT1")))
local macro_rules | `(tactic| walk_at "SQL2") => `(tactic| (first | with_reducible assumption | exact SqL.of (by with_reducible assumption) | exact AH.seq (by with_reducible assumption) (by walk_at "SQL1")))
local macro_rules | `(tactic| walk_at "SAT2") => `(tactic| (first | with_reducible assumption | exact AH.get (by with_reducible assumption) (by walk_at "SAT1")))
local macro_rules | `(tactic| walk_at "SQT3") => `(tactic| (first | with_reducible assumption | exact SqT.of (by with_reducible assumption) | exact AH.tup (by with_reducible assumption) (by walk_at "SQT2")))
local macro_rules | `(tactic| walk_at "SQL3") => `(tactic| (first | with_reducible assumption | exact SqL.of (by with_reducible assumption) | exact AH.seq (by with_reducible assumption) (by walk_at "SQL2")))
local macro_rules | `(tactic| walk_at "SAT3") => `(tactic| (first | with_reducible assumption | exact AH.get (by with_reducible assumption) (by walk_at "SAT2")))
local macro_rules | `(tactic| walk_at "SQT4") => `(tactic| (first | with_reducible assumption | exact SqT.of (by with_reducible assumption) | exact AH.tup (by with_reducible assumption) (by walk_at "SQT3")))
local macro_rules | `(tactic| walk_at "SQL4") => `(tactic| (first | with_reducible assumption | exact SqL.of (by with_reducible assumption) | exact AH.seq (by with_reducible assumption) (by walk_at "SQL3")))
local macro_rules | `(tactic| walk_at "SAT4") => `(tactic| (first | with_reducible assumption | exact AH.get (by with_reducible assumption) (by walk_at "SAT3")))
local macro_rules | `(tactic| walk_at "SQT5") => `(tactic| (first | with_reducible assumption | exact SqT.of (by with_reducible assumption) | exact AH.tup (by with_reducible assumption) (by walk_at "SQT4")))
local macro_rules | `(tactic| walk_at "SQL5") => `(tactic| (first | with_reducible assumption | exact SqL.of (by with_reducible assumption) | exact AH.seq (by with_reducible assumption) (by walk_at "SQL4")))
local macro_rules | `(tactic| walk_at "SAT5") => `(tactic| (first | with_reducible assumption | exact AH.get (by with_reducible assumption) (by walk_at "SAT4")))
local macro_rules | `(tactic| walk_at "SQT6") => `(tactic| (first | with_reducible assumption | exact SqT.of (by with_reducible assumption) | exact AH.tup (by with_reducible assumption) (by walk_at "SQT5")))
local macro_rules | `(tactic| walk_at "SQL6") => `(tactic| (first | with_reducible assumption | exact SqL.of (by with_reducible assumption) | exact AH.seq (by with_reducible assumption) (by walk_at "SQL5")))
local macro_rules | `(tactic| walk_at "SAT6") => `(tactic| (first | with_reducible assumption | exact AH.get (by with_reducible assumption) (by walk_at "SAT5")))
local macro_rules | `(tactic| walk_at "RD") => `(tactic| ((try dsimp only [Ka, IM, Ky, HV, HZ, K5, L4, Io, G5, B4, IV, Fi, Ev, tOp, tUn, Fm, tC, D0, Dw, Fg, Dl, tCB, EU, Eb, rI, rI0, rU, rEq, rNe, CI, B6, B9, CO, CJ, CH, B7, Bo, CA, Bp, CB, CM, CD, CC, IH, Hx, tOr, EO, JY, FF, tB, tIf, IK, HY, EV, CF, Br, Cu, JV, Ja, FE, Cj, Cz, Hj, Bq, ET, Hz, EW, Hk, JJ, Ey, Bm, DY, EQ, EL, Bv, CU, tSl, IA, Bn, EI, Hg, FI, rIn, Hr, Da, Dm, C0, Ci, JG, EZ, Ht, Cp, EK, E6, FK, E3, L2.start, if_true, if_false, List.map_cons, List.map_nil, List.length_cons, List.length_nil, List.cons_append, List.nil_append, List.replicate, List.set_cons_zero, List.set_cons_succ, List.getElem?_cons_zero, List.getElem?_cons_succ, Nat.reduceAdd, Nat.reduceSub, Int.reduceToNat, Int.reduceNeg, Int.reduceMul, Int.reduceAdd, Int.reduceSub]); (try simp only [Ka, IM, Ky, HV, HZ, K5, L4, Io, G5, B4, IV, Fi, Ev, tOp, tUn, Fm, tC, D0, Dw, Fg, Dl, tCB, EU, Eb, rI, rI0, rU, rEq, rNe, CI, B6, B9, CO, CJ, CH, B7, Bo, CA, Bp, CB, CM, CD, CC, IH, Hx, tOr, EO, JY, FF, tB, tIf, IK, HY, LA, Kq, Iz, EV, CF, Br, Cu, JV, Ja, FE, Cj, Cz, Hj, Bq, ET, Hz, EW, Hk, JJ, Ey, Bm, DY, EQ, EL, Bv, CU, tSl, IA, Bn, EI, Hg, FI, rIn, Hr, Da, Dm, C0, Ci, JG, EZ, Ht, Cp, EK, E6, FK, E3, L2.start, cxK, exists_and_right, and_assoc, Int.reduceLE, Int.reduceLT, Nat.reduceLT, Nat.reducePow, Int.reducePow, Fb, Ib, false_and, exists_false, and_false, if_true, if_false, decide_true, decide_false, Bool.false_eq_true, Bool.not_true, Bool.not_false, List.map_cons, List.map_nil, List.length_cons, List.length_nil, List.cons_append, List.nil_append, List.append_nil, List.replicate, List.set_cons_zero, List.set_cons_succ, List.getElem?_cons_zero, List.getElem?_cons_succ, Option.some.injEq, V.int.injEq, V.bl.injEq, V.ref.injEq, V.ty.injEq, V.str.injEq, List.cons.injEq, exists_eq_left', exists_and_left, exists_eq_left, true_and, and_true, true_or, or_true, Nat.reduceAdd, Nat.reduceSub, Int.reduceToNat, Int.reduceNeg, Int.reduceMul, Int.reduceAdd, Int.reduceSub, Bool.not_eq_true, Bool.not_not, forall_const])))
local macro_rules | `(tactic| walk_at "STEP") => `(tactic| ((first | (with_reducible refine ⟨_, rfl, ?_⟩) | (with_reducible apply FR; · exact rfl) | (with_reducible apply FR; · (walk_at "SQT6")) | (with_reducible apply FR; · (walk_at "SQL6")) | (with_reducible apply FR; · (walk_at "SAT6")) | (with_reducible apply FR; · exact As (by omega) (by omega)) | (with_reducible apply exOrL; · (walk_at "SQL6")) | (with_reducible apply exOrR; · (walk_at "SQT6")) | (with_reducible apply FR; · exact Dy.tup (by walk_at "SAT6")) | (with_reducible apply FR; · exact Dy.lst (by walk_at "SAT6")) | (with_reducible apply FR; · exact Dy.int _) | (with_reducible apply FR; · exact Dy.str _) | (with_reducible apply And.intro; · (first | exact rfl | exact Bo | exact Bp | decide | with_reducible assumption | omega | exact ⟨_, rfl⟩ | exact ⟨_, (by walk_at "SQL6")⟩ | exact ⟨_, (by walk_at "SQT6")⟩ | exact ⟨_, (by walk_at "SAT6")⟩ | (simp only [List.length_map, List.length_append, List.length_cons, List.length_nil, PySem.sizeLine_eq]; omega) | first | with_reducible assumption | exact Sm.of (n := 10 ^ 120) (by omega) (by decide +kernel))) | (with_reducible intro p H' hn hs he; (have ck := Q8 hs); clear ck) | (with_reducible apply T1; · (first | decide | (simp; done) | (simp; omega))) | (with_reducible apply Pu; · (first | decide | (simp; done) | (simp; omega))))))
local macro_rules | `(tactic| walk_at "AUTO") => `(tactic| (repeat walk_at "STEP"))
local macro_rules | `(tactic| delta $ids*) => do
  let ls ← ids.mapM fun i => `(Lean.Parser.Tactic.simpLemma| $i:ident)
  `(tactic| (try dsimp only [Ka, IM, Ky, HV, HZ, K5, L4, Io, G5, B4, IV, Fi, Ev, tOp, tUn, Fm, tC, D0, Dw, Fg, Dl, tCB, EU, Eb, rI, rI0, rU, rEq, rNe, CI, B6, B9, CO, CJ, CH, B7, Bo, CA, Bp, CB, CM, CD, CC, IH, Hx, tOr, EO, JY, FF, tB, tIf, IK, HY, EV, CF, Br, Cu, JV, Ja, FE, Cj, Cz, Hj, Bq, ET, Hz, EW, Hk, JJ, Ey, Bm, DY, EQ, EL, Bv, CU, tSl, IA, Bn, EI, Hg, FI, rIn, Hr, Da, Dm, C0, Ci, JG, EZ, Ht, Cp, EK, E6, FK, E3, L2.start, if_true, if_false, List.map_cons, List.map_nil, List.length_cons, List.length_nil, List.cons_append, List.nil_append, List.replicate, List.set_cons_zero, List.set_cons_succ, List.getElem?_cons_zero, List.getElem?_cons_succ, Nat.reduceAdd, Nat.reduceSub, Int.reduceToNat, Int.reduceNeg, Int.reduceMul, Int.reduceAdd, Int.reduceSub, $ls,*]); (try simp only [Ka, IM, Ky, HV, HZ, K5, L4, Io, G5, B4, IV, Fi, Ev, tOp, tUn, Fm, tC, D0, Dw, Fg, Dl, tCB, EU, Eb, rI, rI0, rU, rEq, rNe, CI, B6, B9, CO, CJ, CH, B7, Bo, CA, Bp, CB, CM, CD, CC, IH, Hx, tOr, EO, JY, FF, tB, tIf, IK, HY, LA, Kq, Iz, EV, CF, Br, Cu, JV, Ja, FE, Cj, Cz, Hj, Bq, ET, Hz, EW, Hk, JJ, Ey, Bm, DY, EQ, EL, Bv, CU, tSl, IA, Bn, EI, Hg, FI, rIn, Hr, Da, Dm, C0, Ci, JG, EZ, Ht, Cp, EK, E6, FK, E3, L2.start, cxK, exists_and_right, and_assoc, Int.reduceLE, Int.reduceLT, Nat.reduceLT, Nat.reducePow, Int.reducePow, Fb, Ib, false_and, exists_false, and_false, if_true, if_false, decide_true, decide_false, Bool.false_eq_true, Bool.not_true, Bool.not_false, List.map_cons, List.map_nil, List.length_cons, List.length_nil, List.cons_append, List.nil_append, List.append_nil, List.replicate, List.set_cons_zero, List.set_cons_succ, List.getElem?_cons_zero, List.getElem?_cons_succ, Option.some.injEq, V.int.injEq, V.bl.injEq, V.ref.injEq, V.ty.injEq, V.str.injEq, List.cons.injEq, exists_eq_left', exists_and_left, exists_eq_left, true_and, and_true, true_or, or_true, Nat.reduceAdd, Nat.reduceSub, Int.reduceToNat, Int.reduceNeg, Int.reduceMul, Int.reduceAdd, Int.reduceSub, Bool.not_eq_true, Bool.not_not, forall_const, $ls,*]))
noncomputable def Dq : List (Str × Str) := [("put", "put_row"), ("take", "take_row"), ("lift", "lift_row"), ("sink", "sink_row"), ("back", "back_row"), ("deeds", "deeds_row"), ("gates", "gates_row"), ("through", "through_row"), ("steepest", "steepest_row"), ("flattest", "flattest_row"), ("runs", "runs_row"), ("most", "most_row"), ("passed", "passed_row")]
noncomputable def top (i : Nat) : Stmt := PySem.Challenge.pw_throwgate_k34_desk_deeds.main.body.getD i (.Pass ⟨0, 0, 0, 0⟩)
noncomputable abbrev DN : Stmt := top 53
noncomputable abbrev DW : Stmt := BN (top 56) 0
noncomputable abbrev Bj : Stmt := BN (top 56) 1
noncomputable abbrev B0 : Stmt := BN (top 56) 2
noncomputable abbrev By : Stmt := BN (top 56) 3
noncomputable abbrev D5 : Stmt := BN (top 56) 4
noncomputable abbrev DQ : Stmt := BN (top 56) 5
noncomputable abbrev DF : Stmt := BN (top 56) 6
noncomputable abbrev DD : Stmt := BN (top 56) 7
noncomputable abbrev DH : Stmt := BN (top 56) 8
noncomputable abbrev Cg : Stmt := BN (top 56) 9
noncomputable abbrev Ch : Stmt := BN (top 56) 10
noncomputable abbrev Co : Stmt := top 60
noncomputable abbrev Cr : Stmt := top 61
noncomputable abbrev DK : Stmt := top 65
noncomputable abbrev CS : Stmt := top 66
noncomputable abbrev CV : Stmt := top 67
noncomputable abbrev CP : Stmt := top 68
noncomputable abbrev Dj : Stmt := top 70
noncomputable abbrev DU : Stmt := top 71
noncomputable abbrev FW : Stmt := top 74
noncomputable abbrev Eh : Stmt := top 75
noncomputable abbrev Ef : Stmt := top 76
noncomputable abbrev Er : Stmt := top 77
noncomputable abbrev Em : Stmt := top 78
noncomputable abbrev Dp : Stmt := top 79
noncomputable abbrev Dx : Stmt := top 80
noncomputable abbrev Ec : Stmt := top 88
noncomputable abbrev DS : Stmt := top 89
noncomputable abbrev Dd : Stmt := BN (top 90) 0
noncomputable abbrev Cm : Stmt := BN (top 90) 1
noncomputable abbrev Fq : Stmt := top 91
noncomputable abbrev El : Stmt := top 93
noncomputable abbrev Gr : Stmt := top 94
noncomputable abbrev LI : Stmt := top 95
noncomputable abbrev JS : Stmt := top 96
noncomputable abbrev Gg : Stmt := top 97
noncomputable abbrev JE : Stmt := top 98
noncomputable abbrev Fu : Stmt := top 99
noncomputable abbrev Di : Stmt := top 100
noncomputable abbrev Gu : Stmt := top 101
noncomputable abbrev Js : Stmt := top 102
noncomputable abbrev DT : Stmt := top 103
noncomputable abbrev Fp : Stmt := top 104
noncomputable abbrev Le : Stmt := top 105
noncomputable abbrev qv : Program := { PySem.Challenge.pw_throwgate_k34_desk_deeds with main := { PySem.Challenge.pw_throwgate_k34_desk_deeds.main with body := [Le] } }
noncomputable def Te : List Str := [Str.ofString "LEAST", Str.ofString "GREATEST", Str.ofString "MOST_GATES", Str.ofString "MOST_DEEDS", Str.ofString "SMALL_BEACH", Str.ofString "GREAT_NUMBER", Str.ofString "BeachError", Str.ofString "NoGate"]
noncomputable def UB : List Str := [Str.ofString "Taken", Str.ofString "UpsideDown", Str.ofString "OutOfBounds", Str.ofString "BeachFull", Str.ofString "DeedsFull", Str.ofString "NothingBack", Str.ofString "BadList", Str.ofString "TooFew"]
noncomputable def Tq : List Str := [Str.ofString "WrongSize", Str.ofString "BadThrow", Str.ofString "BadRow", Str.ofString "side_of_line", Str.ofString "barring", Str.ofString "first_three", Str.ofString "greatest_divisor", Str.ofString "lowest"]
noncomputable def To : List Str := [Str.ofString "compare", Str.ofString "height_at", Str.ofString "line_by", Str.ofString "passes", Str.ofString "passes_all", Str.ofString "places_passed", Str.ofString "foot_to_head", Str.ofString "tightest_pair"]
noncomputable def QM : List Str := [Str.ofString "steepest_found", Str.ofString "level_throw", Str.ofString "common_throw", Str.ofString "bar_told", Str.ofString "throw_through", Str.ofString "steepest_throw", Str.ofString "turned_over", Str.ofString "turned_throw"]
noncomputable def Rj : List Str := [Str.ofString "flattest_throw", Str.ofString "run_told", Str.ofString "fewest_runs", Str.ofString "tried_throws", Str.ofString "most_gates", Str.ofString "check_gate", Str.ofString "check_places", Str.ofString "check_throw"]
noncomputable def UF : List Str := [Str.ofString "Beach", Str.ofString "FIGURES", Str.ofString "MOST_FIGURES", Str.ofString "are_figures", Str.ofString "read_number", Str.ofString "read_fraction", Str.ofString "write_fraction", Str.ofString "check_many"]
noncomputable def TC : List Str := [Str.ofString "read_numbers", Str.ofString "read_so_many", Str.ofString "number_words", Str.ofString "throw_words", Str.ofString "gate_text", Str.ofString "deeds_text", Str.ofString "through_text", Str.ofString "run_word"]
noncomputable def Tt : List Str := [Str.ofString "put_row", Str.ofString "take_row", Str.ofString "lift_row", Str.ofString "sink_row", Str.ofString "back_row", Str.ofString "deeds_row", Str.ofString "gates_row", Str.ofString "through_row"]
noncomputable def Po : List Str := [Str.ofString "steepest_row", Str.ofString "flattest_row", Str.ofString "runs_row", Str.ofString "most_row", Str.ofString "passed_row", Str.ofString "ROWS", Str.ofString "row_told", Str.ofString "row_answer"]
noncomputable def Oc : List Str := [Str.ofString "Desk", Str.ofString "answers", Str.ofString "_law_spread", Str.ofString "_law_menu", Str.ofString "_law_at", Str.ofString "_law_how", Str.ofString "_law_deed", Str.ofString "_law_row"]
noncomputable def Oo : List Str := [Str.ofString "_law_would", Str.ofString "_law_refusal", Str.ofString "_law_kept", Str.ofString "_law_due", Str.ofString "_law_standing", Str.ofString "_law_shown"]
noncomputable def Fj : List Str := Te ++ UB ++ Tq ++ To ++ QM ++ Rj ++ UF ++ TC ++ Tt ++ Po ++ Oc ++ Oo
noncomputable def addrs : List Addr := [2, 3, 15, 22, 23, 24, 25, 28, 35, 36, 37, 40, 47, 48, 49, 52, 59, 60, 61, 64, 71, 72, 73, 76, 83, 84, 85, 88, 95, 96, 97, 100, 107, 108, 109, 112, 119, 120, 121, 124, 131, 132, 133, 136, 143, 144, 145, 148, 155, 156, 157, 160, 167, 168, 169, 172, 174, 175, 177, 178, 179, 181, 182, 184, 185, 186, 188, 189, 191, 192, 193, 195, 196, 198, 199, 200, 202, 203, 205, 206, 207, 209, 210, 212, 213, 214, 216, 217, 219, 220, 221, 223, 224, 226, 227, 228, 230, 231, 233, 234, 235, 238, 239, 240, 243, 244, 245, 247, 248, 250, 251, 252, 254, 255, 257, 258, 259, 261, 262, 264, 265, 266, 268, 269, 271, 272, 273, 275, 276, 278, 279, 280, 282, 283, 285, 286, 287, 289, 290, 292, 293, 294, 296, 297, 299, 300, 301, 303, 304, 306, 307, 308, 310, 311, 313, 314, 315, 318, 319, 320, 322, 323, 325, 326, 327, 329, 330, 332, 333, 334, 336, 337, 339, 340, 341, 344, 345, 346, 348, 349, 351, 352, 353, 355, 356, 358, 359, 360, 362, 363, 365, 366, 374, 376, 377, 379, 380, 381, 384, 385, 386, 388, 389, 391, 392, 393, 396, 397, 398, 400, 401, 403, 404, 405, 407, 408, 410, 411, 412, 414, 415, 417, 418, 419, 421, 422, 424, 425, 426, 427, 429, 430, 432, 433, 434, 436, 437, 439, 440, 441, 443, 444, 446, 447, 448, 451, 452, 453, 455, 456, 458, 459, 460, 462, 463, 465, 466, 467, 469, 470, 472, 473, 474, 476, 477, 479, 480, 481, 483, 484, 486, 487, 488, 490, 491, 493, 494, 495, 497, 498, 500, 501, 502, 503, 504, 505, 506, 509, 512, 513, 514, 516, 517, 519, 520, 521, 523, 524, 526, 527, 528, 531, 532, 533, 535, 536, 538, 539, 540, 543, 544, 545, 547, 548, 550, 551, 552, 555, 556, 557, 559, 560, 562, 563, 564, 566, 567, 569, 570, 571, 573, 574, 576, 577, 578, 580, 581, 583, 584, 585, 587, 588, 590, 591, 592, 594, 595, 597, 598, 599, 601, 602, 604, 605, 606, 608, 609, 611, 612, 613, 615, 616, 618, 619, 620, 622, 623, 625, 626, 627, 629, 630, 632, 633, 634, 637, 638, 639, 641, 642, 644, 645, 646, 648, 649, 651, 652, 653, 655, 656, 658, 659, 660, 663, 664, 665, 667, 668, 670, 671, 672, 674, 675, 677, 678, 679, 680, 682, 683, 685, 686, 687, 689, 690, 692, 693, 701, 703, 704, 706, 707, 708, 710, 711, 713, 714, 715, 716, 717, 718, 719, 722, 725, 726, 727, 729, 730, 732, 733, 734, 736, 737, 739, 740, 741, 743, 744, 746, 747, 748, 750, 751, 753, 754, 755, 757, 758, 760, 761, 762, 764, 765, 767, 768, 769, 771, 772, 774, 775, 776, 778, 779, 781, 782, 783, 785, 786, 788, 789, 790, 793, 794, 795, 798, 799, 800, 803, 804, 805, 807, 808, 810, 811]
noncomputable def obs0 (K : PySem.W.Frag) : List (Bool) := [OS K "Beach" ["standing", "past"], OS K "Desk" ["beach"], Ek K "BeachError", Ek K "NoGate", Ek K "Taken", Ek K "UpsideDown", Ek K "OutOfBounds", Ek K "BeachFull"]
noncomputable def val0 : List (Bool) := [true, true, true, true, true, true, true, true]
noncomputable def obs1 (K : PySem.W.Frag) : List (Bool) := [Ek K "DeedsFull", Ek K "NothingBack", Ek K "BadList", Ek K "TooFew", Ek K "WrongSize", Ek K "BadThrow", Ek K "BadRow", No K ["BadRow", "NoGate", "Taken", "UpsideDown", "OutOfBounds", "BeachFull", "DeedsFull", "NothingBack", "BadList", "TooFew", "WrongSize", "BadThrow"]]
noncomputable def val1 : List (Bool) := [true, true, true, true, true, true, true, true]
noncomputable def obs2 (K : PySem.W.Frag) : List (Bool) := [Ss K "ROWS" Dq, Fl K "abs", Fl K "all", Fl K "dict", Fl K "int", Fl K "isinstance", Fl K "len", Fl K "list"]
noncomputable def val2 : List (Bool) := [true, true, true, true, true, true, true, true]
noncomputable def obs3 (K : PySem.W.Frag) : List (Bool) := [Fl K "max", Fl K "range", Fl K "sorted", Fl K "str"]
noncomputable def val3 : List (Bool) := [true, true, true, true]
noncomputable def obs4 (K : PySem.W.Frag) : List (Seen) := [BL K "check_gate", DE K "Beach" "__init__" "Beach.__init__", DE K "Beach" "has_gate" "Beach.has_gate", DE K "Beach" "gate_at" "Beach.gate_at", DE K "Beach" "do_deed" "Beach.do_deed", DE K "Beach" "put" "Beach.put", DE K "Beach" "take" "Beach.take", DE K "Beach" "lift" "Beach.lift"]
noncomputable def val4 : List (Seen) := [Ap "check_gate" "check_gate" DN [], Ap "__init__" "Beach.__init__" DW [], Ap "has_gate" "Beach.has_gate" Bj [], Ap "gate_at" "Beach.gate_at" B0 [], Ap "do_deed" "Beach.do_deed" By [], Ap "put" "Beach.put" D5 [], Ap "take" "Beach.take" DQ [], Ap "lift" "Beach.lift" DF []]
noncomputable def obs5 (K : PySem.W.Frag) : List (Seen) := [DE K "Beach" "sink" "Beach.sink", DE K "Beach" "back" "Beach.back", DE K "Beach" "gates" "Beach.gates", DE K "Beach" "deeds" "Beach.deeds", BL K "are_figures", BL K "read_number", BL K "check_many", BL K "read_numbers"]
noncomputable def val5 : List (Seen) := [Ap "sink" "Beach.sink" DD [], Ap "back" "Beach.back" DH [1], Ap "gates" "Beach.gates" Cg [], Ap "deeds" "Beach.deeds" Ch [], Ap "are_figures" "are_figures" Co [], Ap "read_number" "read_number" Cr [], Ap "check_many" "check_many" DK [], Ap "read_numbers" "read_numbers" CS []]
noncomputable def obs6 (K : PySem.W.Frag) : List (Seen) := [BL K "read_so_many", BL K "number_words", BL K "gate_text", BL K "deeds_text", BL K "put_row", BL K "take_row", BL K "lift_row", BL K "sink_row"]
noncomputable def val6 : List (Seen) := [Ap "read_so_many" "read_so_many" CV [], Ap "number_words" "number_words" CP [], Ap "gate_text" "gate_text" Dj [], Ap "deeds_text" "deeds_text" DU [], Ap "put_row" "put_row" FW [], Ap "take_row" "take_row" Eh [], Ap "lift_row" "lift_row" Ef [], Ap "sink_row" "sink_row" Er []]
noncomputable def obs7 (K : PySem.W.Frag) : List (Seen) := [BL K "back_row", BL K "deeds_row", BL K "gates_row", BL K "row_told", BL K "row_answer", DE K "Desk" "__init__" "Desk.__init__", DE K "Desk" "answer" "Desk.answer", BL K "answers"]
noncomputable def val7 : List (Seen) := [Ap "back_row" "back_row" Em [], Ap "deeds_row" "deeds_row" Dp [], Ap "gates_row" "gates_row" Dx [], Ap "row_told" "row_told" Ec [], Ap "row_answer" "row_answer" DS [], Ap "__init__" "Desk.__init__" Dd [], Ap "answer" "Desk.answer" Cm [], Ap "answers" "answers" Fq []]
noncomputable def obs8 (K : PySem.W.Frag) : List (Seen) := [BL K "_law_spread", BL K "_law_menu", BL K "_law_at", BL K "_law_how", BL K "_law_deed", BL K "_law_row", BL K "_law_would", BL K "_law_refusal"]
noncomputable def val8 : List (Seen) := [Ap "_law_spread" "_law_spread" El [], Ap "_law_menu" "_law_menu" Gr [], Ap "_law_at" "_law_at" LI [], Ap "_law_how" "_law_how" JS [], Ap "_law_deed" "_law_deed" Gg [], Ap "_law_row" "_law_row" JE [], Ap "_law_would" "_law_would" Fu [], Ap "_law_refusal" "_law_refusal" Di []]
noncomputable def obs9 (K : PySem.W.Frag) : List (Seen) := [BL K "_law_kept", BL K "_law_due", BL K "_law_standing", BL K "_law_shown", BL K "law"]
noncomputable def val9 : List (Seen) := [Ap "_law_kept" "_law_kept" Gu [], Ap "_law_due" "_law_due" Js [], Ap "_law_standing" "_law_standing" DT [], Ap "_law_shown" "_law_shown" Fp [], Ap "law" "law" Le []]
noncomputable def obs10 (K : PySem.W.Frag) : List (Option Int) := [JM K "LEAST", JM K "GREATEST", JM K "MOST_GATES", JM K "MOST_DEEDS", JM K "SMALL_BEACH", JM K "GREAT_NUMBER", JM K "MOST_FIGURES"]
noncomputable def val10 : List (Option Int) := [some (-1000), some (1000), some (40), some (300), some (12), some (999999999), some (9)]
noncomputable def obs11 (K : PySem.W.Frag) : List (Option Str) := [Qg K "FIGURES"]
noncomputable def val11 : List (Option Str) := [some "0123456789"]
noncomputable def KU (K : PySem.W.Frag) : List (Bool) × List (Bool) × List (Bool) × List (Bool) × List (Seen) × List (Seen) × List (Seen) × List (Seen) × List (Seen) × List (Seen) × List (Option Int) × List (Option Str) × List Int := (obs0 K, obs1 K, obs2 K, obs3 K, obs4 K, obs5 K, obs6 K, obs7 K, obs8 K, obs9 K, obs10 K, obs11 K, Gd K "ROWS")
noncomputable def Mg (w : World) : List (Bool) × List (Bool) × List (Bool) × List (Bool) × List (Seen) × List (Seen) × List (Seen) × List (Seen) × List (Seen) × List (Seen) × List (Option Int) × List (Option Str) × List Int := (val0, val1, val2, val3, val4, val5, val6, val7, val8, val9, val10, val11, Dq.map fun f => PySem.PyData.keyHash w.params f.1)
noncomputable def Ni (w : World) (os : PySem.OsState) := Ft PySem.Challenge.pw_throwgate_k34_desk_deeds qv Fj (fun _ => ()) 6393 w os
noncomputable def KH := some (true, PySem.W.openGood qv Fj, ())
noncomputable def NH (w : World) (os : PySem.OsState) := N9 PySem.Challenge.pw_throwgate_k34_desk_deeds (fun s => KU (Mv addrs s)) 6393 w os
noncomputable def Ju (w : World) := some (Mg w)
theorem MW : Ni = Ni := rfl
theorem K0 : KH = KH := rfl
name_quick runAY for TG.Ni by TG.MW
name_quick goodAY for TG.KH by TG.K0
theorem runAf (w : World) (os : PySem.OsState) : PySem.W.Fast.runAY (w.withFollow "special-get-raises" false) os = PySem.W.Fast.goodAY := by kernel_rfl
theorem runAt (w : World) (os : PySem.OsState) : PySem.W.Fast.runAY (w.withFollow "special-get-raises" true) os = PySem.W.Fast.goodAY := by kernel_rfl
theorem runA1 (w : World) (os : PySem.OsState) : Ni w os = KH := PySem.W.byRow2 "special-get-raises" (P := fun w => Ni w os = KH) (fun w => ((congrFun (congrFun PySem.W.Fast.runAY_eq _) os).trans (runAf w os)).trans PySem.W.Fast.goodAY_eq.symm) (fun w => ((congrFun (congrFun PySem.W.Fast.runAY_eq _) os).trans (runAt w os)).trans PySem.W.Fast.goodAY_eq.symm) w
theorem Mc : NH = NH := rfl
theorem Kz : Ju = Ju := rfl
name_quick runBY for TG.NH by TG.Mc
name_quick goodBY for TG.Ju by TG.Kz
theorem runBf (w : World) (os : PySem.OsState) : PySem.W.Fast.runBY (w.withFollow "special-get-raises" false) os = PySem.W.Fast.goodBY (w.withFollow "special-get-raises" false) := by kernel_rfl
theorem runBt (w : World) (os : PySem.OsState) : PySem.W.Fast.runBY (w.withFollow "special-get-raises" true) os = PySem.W.Fast.goodBY (w.withFollow "special-get-raises" true) := by kernel_rfl
theorem runB1 (w : World) (os : PySem.OsState) : NH w os = Ju w := PySem.W.byRow2 "special-get-raises" (P := fun w => NH w os = Ju w) (fun w => ((congrFun (congrFun PySem.W.Fast.runBY_eq _) os).trans (runBf w os)).trans (congrFun PySem.W.Fast.goodBY_eq _).symm) (fun w => ((congrFun (congrFun PySem.W.Fast.runBY_eq _) os).trans (runBt w os)).trans (congrFun PySem.W.Fast.goodBY_eq _).symm) w
theorem runs (w : World) (os : PySem.OsState) : Ft PySem.Challenge.pw_throwgate_k34_desk_deeds qv Fj (fun s => KU (Mv addrs s)) 6393 w os = some (true, PySem.W.openGood qv Fj, Mg w) := Kn (runA1 w os) (runB1 w os)
theorem left : PySem.W.LeftO PySem.Challenge.pw_throwgate_k34_desk_deeds qv Fj (fun _ => true) (fun s => KU (Kof addrs s.heap)) (fun w => Mg w) 12846 :=
 My (M := 6393) (obs := fun s => KU (Mv addrs s)) (by kernel_rfl) rfl (fun _ => rfl) rfl (fun s => congrArg KU (OX addrs s)) runs
theorem inj1 {α : Type} {a0 b0 : α} (h : [a0] = [b0]) : a0 = b0 := by simp only [List.cons.injEq, and_true] at h; exact h
theorem inj4 {α : Type} {a0 b0 a1 b1 a2 b2 a3 b3 : α} (h : [a0, a1, a2, a3] = [b0, b1, b2, b3]) : a0 = b0 ∧ a1 = b1 ∧ a2 = b2 ∧ a3 = b3 := by simp only [List.cons.injEq, and_true] at h; exact h
theorem inj5 {α : Type} {a0 b0 a1 b1 a2 b2 a3 b3 a4 b4 : α} (h : [a0, a1, a2, a3, a4] = [b0, b1, b2, b3, b4]) : a0 = b0 ∧ a1 = b1 ∧ a2 = b2 ∧ a3 = b3 ∧ a4 = b4 := by simp only [List.cons.injEq, and_true] at h; exact h
theorem inj7 {α : Type} {a0 b0 a1 b1 a2 b2 a3 b3 a4 b4 a5 b5 a6 b6 : α} (h : [a0, a1, a2, a3, a4, a5, a6] = [b0, b1, b2, b3, b4, b5, b6]) : a0 = b0 ∧ a1 = b1 ∧ a2 = b2 ∧ a3 = b3 ∧ a4 = b4 ∧ a5 = b5 ∧ a6 = b6 := by simp only [List.cons.injEq, and_true] at h; exact h
theorem KD {α : Type} {a0 b0 a1 b1 a2 b2 a3 b3 a4 b4 a5 b5 a6 b6 a7 b7 : α} (h : [a0, a1, a2, a3, a4, a5, a6, a7] = [b0, b1, b2, b3, b4, b5, b6, b7]) : a0 = b0 ∧ a1 = b1 ∧ a2 = b2 ∧ a3 = b3 ∧ a4 = b4 ∧ a5 = b5 ∧ a6 = b6 ∧ a7 = b7 := by simp only [List.cons.injEq, and_true] at h; exact h
set_option genInjectivity false in
structure Tx (w : World) (K : PySem.W.Frag) (mg : Str → Option Value) where
 C_Beach : Addr
 m_Beach : mg "Beach" = some (.ref C_Beach)
 cl_Beach : Cls K C_Beach
 C_Desk : Addr
 m_Desk : mg "Desk" = some (.ref C_Desk)
 cl_Desk : Cls K C_Desk
 n_Beach_standing : DC K C_Beach "standing"
 n_Beach_past : DC K C_Beach "past"
 n_Desk_beach : DC K C_Desk "beach"
 C_BeachError : Addr
 m_BeachError : mg "BeachError" = some (.ref C_BeachError)
 e_BeachError : C9 K C_BeachError
 C_NoGate : Addr
 m_NoGate : mg "NoGate" = some (.ref C_NoGate)
 e_NoGate : C9 K C_NoGate
 C_Taken : Addr
 m_Taken : mg "Taken" = some (.ref C_Taken)
 e_Taken : C9 K C_Taken
 C_UpsideDown : Addr
 m_UpsideDown : mg "UpsideDown" = some (.ref C_UpsideDown)
 e_UpsideDown : C9 K C_UpsideDown
 C_OutOfBounds : Addr
 m_OutOfBounds : mg "OutOfBounds" = some (.ref C_OutOfBounds)
 e_OutOfBounds : C9 K C_OutOfBounds
 C_BeachFull : Addr
 m_BeachFull : mg "BeachFull" = some (.ref C_BeachFull)
 e_BeachFull : C9 K C_BeachFull
 C_DeedsFull : Addr
 m_DeedsFull : mg "DeedsFull" = some (.ref C_DeedsFull)
 e_DeedsFull : C9 K C_DeedsFull
 C_NothingBack : Addr
 m_NothingBack : mg "NothingBack" = some (.ref C_NothingBack)
 e_NothingBack : C9 K C_NothingBack
 C_BadList : Addr
 m_BadList : mg "BadList" = some (.ref C_BadList)
 e_BadList : C9 K C_BadList
 C_TooFew : Addr
 m_TooFew : mg "TooFew" = some (.ref C_TooFew)
 e_TooFew : C9 K C_TooFew
 C_WrongSize : Addr
 m_WrongSize : mg "WrongSize" = some (.ref C_WrongSize)
 e_WrongSize : C9 K C_WrongSize
 C_BadThrow : Addr
 m_BadThrow : mg "BadThrow" = some (.ref C_BadThrow)
 e_BadThrow : C9 K C_BadThrow
 C_BadRow : Addr
 m_BadRow : mg "BadRow" = some (.ref C_BadRow)
 e_BadRow : C9 K C_BadRow
 xs : Oa K [C_BadRow, C_NoGate, C_Taken, C_UpsideDown, C_OutOfBounds, C_BeachFull, C_DeedsFull, C_NothingBack, C_BadList, C_TooFew, C_WrongSize, C_BadThrow]
 f_check_gate : Addr
 fd_check_gate : FuncData
 d_check_gate : D K mg "check_gate" DN ["gate"] f_check_gate fd_check_gate
 f_Beach_init : Addr
 fd_Beach_init : FuncData
 d_Beach_init : DM K C_Beach "__init__" "Beach.__init__" DW ["self"] f_Beach_init fd_Beach_init
 f_Beach_has_gate : Addr
 fd_Beach_has_gate : FuncData
 d_Beach_has_gate : DM K C_Beach "has_gate" "Beach.has_gate" Bj ["self", "place"] f_Beach_has_gate fd_Beach_has_gate
 f_Beach_gate_at : Addr
 fd_Beach_gate_at : FuncData
 d_Beach_gate_at : DM K C_Beach "gate_at" "Beach.gate_at" B0 ["self", "place"] f_Beach_gate_at fd_Beach_gate_at
 f_Beach_do_deed : Addr
 fd_Beach_do_deed : FuncData
 d_Beach_do_deed : DM K C_Beach "do_deed" "Beach.do_deed" By ["self", "place", "instead"] f_Beach_do_deed fd_Beach_do_deed
 f_Beach_put : Addr
 fd_Beach_put : FuncData
 d_Beach_put : DM K C_Beach "put" "Beach.put" D5 ["self", "place", "foot", "head"] f_Beach_put fd_Beach_put
 f_Beach_take : Addr
 fd_Beach_take : FuncData
 d_Beach_take : DM K C_Beach "take" "Beach.take" DQ ["self", "place"] f_Beach_take fd_Beach_take
 f_Beach_lift : Addr
 fd_Beach_lift : FuncData
 d_Beach_lift : DM K C_Beach "lift" "Beach.lift" DF ["self", "place", "foot_by", "head_by"] f_Beach_lift fd_Beach_lift
 f_Beach_sink : Addr
 fd_Beach_sink : FuncData
 d_Beach_sink : DM K C_Beach "sink" "Beach.sink" DD ["self", "place", "foot_by", "head_by"] f_Beach_sink fd_Beach_sink
 f_Beach_back : Addr
 fd_Beach_back : FuncData
 d_Beach_back : DMD K C_Beach "back" "Beach.back" DH ["self", "many"] f_Beach_back fd_Beach_back [.int 1]
 f_Beach_gates : Addr
 fd_Beach_gates : FuncData
 d_Beach_gates : DM K C_Beach "gates" "Beach.gates" Cg ["self"] f_Beach_gates fd_Beach_gates
 f_Beach_deeds : Addr
 fd_Beach_deeds : FuncData
 d_Beach_deeds : DM K C_Beach "deeds" "Beach.deeds" Ch ["self"] f_Beach_deeds fd_Beach_deeds
 f_are_figures : Addr
 fd_are_figures : FuncData
 d_are_figures : D K mg "are_figures" Co ["text"] f_are_figures fd_are_figures
 f_read_number : Addr
 fd_read_number : FuncData
 d_read_number : D K mg "read_number" Cr ["text"] f_read_number fd_read_number
 f_check_many : Addr
 fd_check_many : FuncData
 d_check_many : D K mg "check_many" DK ["words", "many"] f_check_many fd_check_many
 f_read_numbers : Addr
 fd_read_numbers : FuncData
 d_read_numbers : D K mg "read_numbers" CS ["words"] f_read_numbers fd_read_numbers
 f_read_so_many : Addr
 fd_read_so_many : FuncData
 d_read_so_many : D K mg "read_so_many" CV ["words", "many"] f_read_so_many fd_read_so_many
 f_number_words : Addr
 fd_number_words : FuncData
 d_number_words : D K mg "number_words" CP ["numbers"] f_number_words fd_number_words
 f_gate_text : Addr
 fd_gate_text : FuncData
 d_gate_text : D K mg "gate_text" Dj ["gate"] f_gate_text fd_gate_text
 f_deeds_text : Addr
 fd_deeds_text : FuncData
 d_deeds_text : D K mg "deeds_text" DU ["many"] f_deeds_text fd_deeds_text
 f_put_row : Addr
 fd_put_row : FuncData
 d_put_row : D K mg "put_row" FW ["beach", "words"] f_put_row fd_put_row
 f_take_row : Addr
 fd_take_row : FuncData
 d_take_row : D K mg "take_row" Eh ["beach", "words"] f_take_row fd_take_row
 f_lift_row : Addr
 fd_lift_row : FuncData
 d_lift_row : D K mg "lift_row" Ef ["beach", "words"] f_lift_row fd_lift_row
 f_sink_row : Addr
 fd_sink_row : FuncData
 d_sink_row : D K mg "sink_row" Er ["beach", "words"] f_sink_row fd_sink_row
 f_back_row : Addr
 fd_back_row : FuncData
 d_back_row : D K mg "back_row" Em ["beach", "words"] f_back_row fd_back_row
 f_deeds_row : Addr
 fd_deeds_row : FuncData
 d_deeds_row : D K mg "deeds_row" Dp ["beach", "words"] f_deeds_row fd_deeds_row
 f_gates_row : Addr
 fd_gates_row : FuncData
 d_gates_row : D K mg "gates_row" Dx ["beach", "words"] f_gates_row fd_gates_row
 f_row_told : Addr
 fd_row_told : FuncData
 d_row_told : D K mg "row_told" Ec ["beach", "row"] f_row_told fd_row_told
 f_row_answer : Addr
 fd_row_answer : FuncData
 d_row_answer : D K mg "row_answer" DS ["beach", "row"] f_row_answer fd_row_answer
 f_Desk_init : Addr
 fd_Desk_init : FuncData
 d_Desk_init : DM K C_Desk "__init__" "Desk.__init__" Dd ["self"] f_Desk_init fd_Desk_init
 f_Desk_answer : Addr
 fd_Desk_answer : FuncData
 d_Desk_answer : DM K C_Desk "answer" "Desk.answer" Cm ["self", "row"] f_Desk_answer fd_Desk_answer
 f_answers : Addr
 fd_answers : FuncData
 d_answers : D K mg "answers" Fq ["rows"] f_answers fd_answers
 f_w_spread : Addr
 fd_w_spread : FuncData
 d_w_spread : D K mg "_law_spread" El ["_law_cell", "_law_many", "_law_mixed"] f_w_spread fd_w_spread
 f_w_menu : Addr
 fd_w_menu : FuncData
 d_w_menu : D K mg "_law_menu" Gr ["_law_draw"] f_w_menu fd_w_menu
 f_w_at : Addr
 fd_w_at : FuncData
 d_w_at : D K mg "_law_at" LI ["_law_script", "_law_k"] f_w_at fd_w_at
 f_w_how : Addr
 fd_w_how : FuncData
 d_w_how : D K mg "_law_how" JS ["_law_script"] f_w_how fd_w_how
 f_w_deed : Addr
 fd_w_deed : FuncData
 d_w_deed : D K mg "_law_deed" Gg ["_law_script", "_law_k", "_law_stands", "_law_past"] f_w_deed fd_w_deed
 f_w_row : Addr
 fd_w_row : FuncData
 d_w_row : D K mg "_law_row" JE ["_law_deed_here"] f_w_row fd_w_row
 f_w_would : Addr
 fd_w_would : FuncData
 d_w_would : D K mg "_law_would" Fu ["_law_stands", "_law_deed_here"] f_w_would fd_w_would
 f_w_refusal : Addr
 fd_w_refusal : FuncData
 d_w_refusal : D K mg "_law_refusal" Di ["_law_stands", "_law_past", "_law_deed_here"] f_w_refusal fd_w_refusal
 f_w_kept : Addr
 fd_w_kept : FuncData
 d_w_kept : D K mg "_law_kept" Gu ["_law_stands", "_law_past", "_law_deed_here"] f_w_kept fd_w_kept
 f_w_due : Addr
 fd_w_due : FuncData
 d_w_due : D K mg "_law_due" Js ["_law_stands", "_law_past", "_law_deed_here"] f_w_due fd_w_due
 f_w_standing : Addr
 fd_w_standing : FuncData
 d_w_standing : D K mg "_law_standing" DT ["_law_stands"] f_w_standing fd_w_standing
 f_w_shown : Addr
 fd_w_shown : FuncData
 d_w_shown : D K mg "_law_shown" Fp ["_law_stands"] f_w_shown fd_w_shown
 f_law : Addr
 fd_law : FuncData
 d_law : D K mg "law" Le ["_law_script"] f_law fd_law
 mk_Beach : Mk K C_Beach f_Beach_init
 mk_Desk : Mk K C_Desk f_Desk_init
 u_LEAST : Value
 k_LEAST : mg "LEAST" = some u_LEAST
 r_LEAST : RelV (.int (-1000)) u_LEAST
 u_GREATEST : Value
 k_GREATEST : mg "GREATEST" = some u_GREATEST
 r_GREATEST : RelV (.int (1000)) u_GREATEST
 u_MOST_GATES : Value
 k_MOST_GATES : mg "MOST_GATES" = some u_MOST_GATES
 r_MOST_GATES : RelV (.int (40)) u_MOST_GATES
 u_MOST_DEEDS : Value
 k_MOST_DEEDS : mg "MOST_DEEDS" = some u_MOST_DEEDS
 r_MOST_DEEDS : RelV (.int (300)) u_MOST_DEEDS
 u_SMALL_BEACH : Value
 k_SMALL_BEACH : mg "SMALL_BEACH" = some u_SMALL_BEACH
 r_SMALL_BEACH : RelV (.int (12)) u_SMALL_BEACH
 u_GREAT_NUMBER : Value
 k_GREAT_NUMBER : mg "GREAT_NUMBER" = some u_GREAT_NUMBER
 r_GREAT_NUMBER : RelV (.int (999999999)) u_GREAT_NUMBER
 u_FIGURES : Value
 k_FIGURES : mg "FIGURES" = some u_FIGURES
 r_FIGURES : RelV (.str "0123456789") u_FIGURES
 u_MOST_FIGURES : Value
 k_MOST_FIGURES : mg "MOST_FIGURES" = some u_MOST_FIGURES
 r_MOST_FIGURES : RelV (.int (9)) u_MOST_FIGURES
 A_ROWS : Addr
 m_ROWS : mg "ROWS" = some (.ref A_ROWS)
 rows : LD w.params K mg A_ROWS Dq
 z_abs : mg "abs" = none
 z_all : mg "all" = none
 z_dict : mg "dict" = none
 z_int : mg "int" = none
 z_isinstance : mg "isinstance" = none
 z_len : mg "len" = none
 z_list : mg "list" = none
 z_max : mg "max" = none
 z_range : mg "range" = none
 z_sorted : mg "sorted" = none
 z_str : mg "str" = none
noncomputable def Tx.err {w : World} {K : PySem.W.Frag} {mg : Str → Option Value} (T : Tx w K mg) : Err → Value
 | .nogate => .ref T.C_NoGate
 | .taken => .ref T.C_Taken
 | .upside => .ref T.C_UpsideDown
 | .bounds => .ref T.C_OutOfBounds
 | .full => .ref T.C_BeachFull
 | .deeds => .ref T.C_DeedsFull
 | .nothing => .ref T.C_NothingBack
 | .badlist => .ref T.C_BadList
 | .few => .ref T.C_TooFew
 | .size => .ref T.C_WrongSize
 | .badthrow => .ref T.C_BadThrow
 | .badrow => .ref T.C_BadRow
section
variable {P : Program} {w : World} {K : PySem.W.Frag} {mg : Str → Option Value} {base : Heap}
theorem ES : AN ["gate", "number"] ["gate"] (AF DN) := by walk_at "SC"
noncomputable def Hi {w : World} {K : PySem.W.Frag} {mg : Str → Option Value} (T : Tx w K mg) : Sp := fun vs H Q E => ∃ (q : Addr) (p f h : Int), vs = [.ref q] ∧ H q = some (.tup [.int p, .int f, .int h]) ∧ (∀ e, DA p f h = some e → E (T.err e) none H) ∧ (DA p f h = none → Q .non H)
theorem EY (T : Tx w K mg) : Ag P w K mg base (CXE P w) 1 T.f_check_gate T.fd_check_gate ["gate"] (Hi T) := by
 refine T.d_check_gate.F.okX ES (fun _ _ _ _ h => by walk_at "LN") ?_
 ·walk_at "I2"
  obtain ⟨q, p, f, h, rfl, hq, kE, k⟩ := h
  refine ⟨_, (AD (Ai (ptc ER (pxi BA (pv 0) AB) (pxi BA (pv 0) AB)) (AE (BK Dt rfl T.e_UpsideDown (by rfl) T.m_UpsideDown (AA AJ AC)))
    AT)
   (AE (Ei ownE rfl (LK (pv 0)) (pgn 1 ES)
    (AE (Ai (HX (ptc KW (pv 1) (D9 (v := .int (-1000)) (by rfl) T.k_LEAST T.r_LEAST)) (HQ (ptc ER (pv 1) (D9 (v := .int (1000)) (by rfl) T.k_GREATEST T.r_GREATEST)))).pt (AE (BK Dt rfl T.e_OutOfBounds (by rfl) T.m_OutOfBounds (AA AJ AC)))
      AT))))), ?_⟩
  walk_at "RD"
  walk_at "AUTO"
  unfold DA at kE k
  by_cases hf : h < f
  ·rw [if_pos (decide_eq_true hf)]
   rw [if_pos hf] at kE
   exact ⟨by decide, kE _ rfl⟩
  rw [if_neg (fun z => hf (of_decide_eq_true z))]
  rw [if_neg hf] at kE k
  refine ⟨_, rfl, q, rfl, ⟨_, SqT.of hq⟩, O4 (xs := [V.int p, V.int f, V.int h]) (fun i σ H' => ∃ o, σ = [some (.ref q), o] ∧ H' = H ∧ ∀ x ∈ [p, f, h].take i, InB x) ⟨none, rfl, rfl, fun _ z => absurd z (by simp)⟩ (fun _ _ _ _ ⟨_, _, e, _⟩ => SqT.of (e ▸ hq)) ?_ ?_⟩
  ·rintro i v σ H1 hx ⟨o, rfl, rfl, hi⟩
   have hil : i < [p, f, h].length := (List.getElem?_eq_some_iff.mp hx).1
   have ev : v = V.int [p, f, h][i] := by
    have hx : ([p, f, h].map V.int)[i]? = some v := hx
    rw [List.getElem?_map, List.getElem?_eq_getElem hil] at hx
    exact (Option.some.inj hx).symm
   subst ev
   have hmem := List.getElem_mem hil
   have htk : [p, f, h].take (i + 1) = [p, f, h].take i ++ [[p, f, h][i]] := List.take_succ_eq_append_getElem hil
   generalize [p, f, h][i] = x at *
   walk_at "RD"
   by_cases h1 : x < -1000
   ·rw [if_pos (decide_eq_true h1)]
    rw [if_neg (fun z => by simp at hmem; rcases hmem with rfl | rfl | rfl <;> lia)] at kE
    exact ⟨by decide, kE _ rfl⟩
   rw [if_neg (fun z => h1 (of_decide_eq_true z))]
   by_cases h2 : 1000 < x
   ·rw [if_pos (decide_eq_true h2)]
    rw [if_neg (fun z => by simp at hmem; rcases hmem with rfl | rfl | rfl <;> lia)] at kE
    exact ⟨by decide, kE _ rfl⟩
   rw [if_neg (fun z => h2 (of_decide_eq_true z))]
   refine ⟨⟨_, rfl⟩, fun y hy => ?_⟩
   rw [htk] at hy
   rcases List.mem_append.mp hy with z | z
   ·exact hi y z
   ·rw [List.mem_singleton.mp z]
    exact ⟨by lia, by lia⟩
  ·rintro σ H1 ⟨o, rfl, rfl, hi⟩
   exact k (if_pos ⟨hi p (by simp), hi f (by simp), hi h (by simp)⟩)
theorem IB : AN ["self"] ["self"] (AF DW) := by walk_at "SC"
noncomputable def Ea {w : World} {K : PySem.W.Frag} {mg : Str → Option Value} (T : Tx w K mg) : Sp := fun vs H Q _ => ∃ (b dx : Addr), vs = [.ref b] ∧ H b = some (.ins T.C_Beach dx []) ∧ ∀ H' S P, H S = none → H P = none → (∀ a u, a ≠ b → H a = some u → H' a = some u) → Bch T.C_Beach H' b S P [S, P] [] [] → Q .non H'
theorem Nj {w : World} {K : PySem.W.Frag} {mg : Str → Option Value} {T : Tx w K mg} {H : Hp} {Q : Addr → Hp → Prop} {E : XK} (k : ∀ b S P H', H b = none → H S = none → H P = none → AH H H' → Bch T.C_Beach H' b S P [S, P] [] [] → Q b H') :
  ∀ x dx, H x = none → H dx = none → dx ≠ x → Ea T [V.ref x] (upd (upd H dx (.own x)) x (.ins T.C_Beach dx [])) (fun v H2 => v = V.non ∧ Q x H2) E := fun x dx nx nd hd => by
 refine ⟨x, dx, rfl, AG, fun H' S P nS nP kp hb => ⟨rfl, k x S P H' nx ?_ ?_ (fun a u e => kp a u (AO e nx) ?_) hb⟩⟩
 ·have h1 : S ≠ x := fun z => by rw [z, AG] at nS; cases nS
  have h2 : S ≠ dx := fun z => by rw [AI h1, z, AG] at nS; cases nS
  rwa [AI h1, AI h2] at nS
 ·have h1 : P ≠ x := fun z => by rw [z, AG] at nP; cases nP
  have h2 : P ≠ dx := fun z => by rw [AI h1, z, AG] at nP; cases nP
  rwa [AI h1, AI h2] at nP
 ·rw [AI (AO e nx), AI (AO e nd)]
  exact e
theorem Hy (T : Tx w K mg) : Ag P w K mg base CX0 1 T.f_Beach_init T.fd_Beach_init ["self"] (Ea T) := by
 refine T.d_Beach_init.F.ok IB (fun _ _ _ _ h => by walk_at "LN") ?_
 ·walk_at "I2"
  obtain ⟨b, dx, rfl, hb, k⟩ := h
  refine ⟨_, (AD (Fw (pv 0) (Aa AC) rfl)
   (AE (Fw (pv 0) (Aa AC) rfl))), ?_⟩
  walk_at "RD"
  refine ⟨by decide, fun S H1 nS s1 eS => ⟨_, dx, _, s1.get hb, T.cl_Beach, T.n_Beach_standing, by decide, by decide, fun P H2 nP s2 eP => ?_⟩⟩
  have sb : S ≠ b := AO hb nS |>.symm
  refine ⟨_, dx, _, s2.get AG, T.cl_Beach, T.n_Beach_past, (by show 1 < 1000; decide), ?_⟩
  have nP1 : H1 P = none := by
   have hPb : P ≠ b := fun z => by rw [z, AG] at nP; cases nP
   rw [AI hPb] at nP
   exact nP
  have eS2 : H2 S = some (.lst []) := s2.get ((AI sb).trans eS)
  have pb : P ≠ b := (AO (s1.get hb) nP1).symm
  have ps : P ≠ S := (AO eS nP1).symm
  refine k _ S P nS (s1.free nP1) (fun a u ha e => ?_) ?_
  ·rw [AI ha]
   exact s2.get ((AI ha).trans (s1.get e))
  ·refine ⟨⟨dx, AG⟩, ⟨[], (AI sb).trans eS2, .nil⟩, ⟨[], (AI pb).trans eP, .nil, fun _ h => absurd h (by simp)⟩, ps.symm, by simp, by simp, ⟨List.Pairwise.nil, fun _ h => absurd h (by simp), by decide⟩, fun _ h => absurd h (by simp), by decide, fun a ha => ?_⟩
   simp at ha
   rcases ha with rfl | rfl
   ·exact ⟨_, (AI sb).trans eS2⟩
   ·exact ⟨_, (AI pb).trans eP⟩
theorem FC : AN ["self", "place"] ["self", "place"] (AF Bj) := by walk_at "SC"
noncomputable def FO {w : World} {K : PySem.W.Frag} {mg : Str → Option Value} (T : Tx w K mg) : Sp := fun vs H Q E => ∃ (b S P : Addr) (ow : List Addr) (gs : List G) (past : List (List G)) (p : Int), vs = [.ref b, .int p] ∧ Bch T.C_Beach H b S P ow gs past ∧ ∀ H', AH H H' → Q (.bl (decide (p ∈ Ab gs))) H'
theorem FP (T : Tx w K mg) : Ag P w K mg base CX0 1 T.f_Beach_has_gate T.fd_Beach_has_gate ["self", "place"] (FO T) := by
 refine T.d_Beach_has_gate.F.ok FC (fun _ _ _ _ h => by walk_at "LN") ?_
 ·walk_at "I2"
  obtain ⟨b, S, P, ow, gs, past, p, rfl, hb, k⟩ := h
  refine ⟨_, (AE (AM (JW Fe (pv 1) (Cc rfl (⟨rfl, by decide +kernel, by decide +kernel, by decide +kernel, rfl, by decide +kernel, by with_unfolding_all rfl, by rfl, by rfl, by rfl⟩ : Aq _ _ "gate" [] []) (CL (Bi (pv 0) rfl)) (fun _ _ _ _  => (pxi (DI (K := K) rfl) (pv 0) AB)) (fun _ _ _ _ => B8)) (by with_unfolding_all rfl)))), ?_⟩
  obtain ⟨dx, eb⟩ := hb.at_
  obtain ⟨as, es, ga⟩ := hb.st
  delta Dh
  refine ⟨_, dx, _, eb, T.cl_Beach, T.n_Beach_standing, _, rfl, ?_⟩
  refine ⟨_, rfl, ⟨_, SqL.of es⟩, fun D nD => ?_⟩
  refine GK (fun _ => true) (fun g => V.int g.p) (SqL.of es) ga nD (by have := hb.std.len; lia) (fun v g H R hg s1 ev hR => ?_) (fun v g H R hg s1 ev hR => ?_) fun H1 s1 e1 => ?_
  ·exact hR
  ·delta Option.join_some
   exact ⟨_, SqT.of ev, _, rfl, hR⟩
  ·rw [OB, show (gs.map fun g => V.int g.p) = (Ab gs).map V.int from by rw [List.map_map]; rfl] at e1
   refine ⟨_, .inl (SqL.of e1), rfl, Mx _, ?_⟩
   rw [Lf]
   exact k _ s1
theorem C8 : AN ["self", "place", "gate"] ["self", "place"] (AF B0) := by walk_at "SC"
noncomputable def Ff {w : World} {K : PySem.W.Frag} {mg : Str → Option Value} (T : Tx w K mg) : Sp := fun vs H Q E => ∃ (b S P : Addr) (ow : List Addr) (gs : List G) (past : List (List G)) (p : Int), vs = [.ref b, .int p] ∧ Bch T.C_Beach H b S P ow gs past ∧ (p ∉ Ab gs → E (T.err .nogate) none H) ∧ ∀ D g, AW gs p = some g → H D = some (.tup (G.vs g)) → Q (.ref D) H
theorem C7 (T : Tx w K mg) : Ag P w K mg base (CXE P w) 1 T.f_Beach_gate_at T.fd_Beach_gate_at ["self", "place"] (Ff T) := by
 refine T.d_Beach_gate_at.F.okX C8 (fun _ _ _ _ h => by walk_at "LN") ?_
 ·walk_at "I2"
  obtain ⟨b, S, P, ow, gs, past, p, rfl, hb, kE, k⟩ := h
  refine ⟨_, (AD (Ei ownE rfl (CL (Bi (pv 0) rfl)) (pgn 2 C8)
    (AE (Ai (ptc BR (pxi BA (pv 2) AB) (pv 1)) (AE (AM (pv 2)))
      AT)))
   (AE (BK Dt rfl T.e_NoGate (by rfl) T.m_NoGate (AA AJ AC)))), ?_⟩
  obtain ⟨dx, eb⟩ := hb.at_
  obtain ⟨as, es, ga⟩ := hb.st
  have las := ga.len
  delta Dh
  refine ⟨_, rfl, b, T.C_Beach, dx, _, _, rfl, eb, T.cl_Beach, T.n_Beach_standing, rfl, S, rfl, ⟨_, SqL.of es⟩, Nt (xs := as.map V.ref) (fun i σ H' => ∃ o, σ = [some (.ref b), some (.int p), o] ∧ H' = H ∧ ∀ g ∈ gs.take i, g.p ≠ p) ⟨none, rfl, rfl, fun _ z => absurd z (by simp)⟩ (fun _ _ _ _ ⟨_, _, e, _⟩ => SqL.of (e ▸ es)) ?_ ?_⟩
  ·rintro i v σ H1 hx ⟨o, rfl, rfl, hn⟩
   have hi : i < gs.length := by
    have := (List.getElem?_eq_some_iff.mp hx).1
    rw [List.length_map] at this
    lia
   obtain ⟨a, ha, ea⟩ := ga.get (List.getElem?_eq_getElem hi)
   have ex : v = V.ref a := by
    rw [List.getElem?_map, ha] at hx
    exact (Option.some.inj hx).symm
   subst ex
   have hm := List.getElem_mem hi
   have htk : gs.take (i + 1) = gs.take i ++ [gs[i]] := List.take_succ_eq_append_getElem hi
   generalize gs[i] = g at *
   walk_at "RD"
   refine ⟨_, SqT.of ea, _, rfl, rfl, ?_⟩
   by_cases hp : g.p = p
   ·rw [if_pos (decide_eq_true (by rw [hp]))]
    exact k a g (hp ▸ IU hb.std.asc hm) ea
   ·rw [if_neg (fun z => hp (V.int.inj (of_decide_eq_true z)))]
    refine ⟨⟨_, rfl⟩, fun y hy => ?_⟩
    rw [htk] at hy
    rcases List.mem_append.mp hy with z | z
    ·exact hn y z
    ·rw [List.mem_singleton.mp z]
     exact hp
  ·rintro σ H1 ⟨o, rfl, rfl, hn⟩
   walk_at "RD"
   refine ⟨by decide, kE fun z => ?_⟩
   obtain ⟨g, hg, e⟩ := List.mem_map.mp z
   exact hn g (by rw [List.length_map, las, List.take_length]; exact hg) e
theorem C4 : AN ["self", "place", "instead", "others"] ["self", "place", "instead"] (AF By) := by walk_at "SC"
noncomputable def Fx {w : World} {K : PySem.W.Frag} {mg : Str → Option Value} (T : Tx w K mg) : Sp := fun vs H Q E => ∃ (b S P : Addr) (ow : List Addr) (gs : List G) (past : List (List G)) (p : Int) (l : Addr) (ls : List Addr) (o : List G), vs = [.ref b, .int p, .ref l] ∧ Bch T.C_Beach H b S P ow gs past ∧ l ∉ ow ∧ H l = some (.lst (ls.map V.ref)) ∧ Ax H ls o ∧ (∀ g ∈ o, g.p = p) ∧ Std (Bd gs p o) ∧ (300 ≤ past.length → E (T.err .deeds) none H) ∧ (past.length < 300 → ∀ H' S' ow' (D : Addr), Kp b P H H' → Bch T.C_Beach H' b S' P ow' (Bd gs p o) (past ++ [gs]) → (∀ a ∈ ow', a ∈ ow ∨ H a = none) → Q .non H')
theorem Bl (T : Tx w K mg) : Ag P w K mg base (CXE P w) 1 T.f_Beach_do_deed T.fd_Beach_do_deed ["self", "place", "instead"] (Fx T) := by
 refine T.d_Beach_do_deed.F.okX C4 (fun _ _ _ _ h => by walk_at "LN") ?_
 ·walk_at "I2"
  obtain ⟨b, S, P, ow, gs, past, p, l, ls, o, rfl, hb, hlo, el, go, hop, std, kE, k⟩ := h
  refine ⟨_, (AD (Ai (ptc Lv (AQ AR (by rfl) T.z_len Ar (AA (Bi (pv 0) rfl) AC)) (D9 (v := .int (300)) (by rfl) T.k_MOST_DEEDS T.r_MOST_DEEDS)) (AE (BK Dt rfl T.e_DeedsFull (by rfl) T.m_DeedsFull (AA AJ AC)))
    AT)
   (AD (LW (i := 3) rfl C4.nd rfl (Or.inl rfl) (⟨rfl, by decide +kernel, by decide +kernel, by decide +kernel, rfl, by decide +kernel, by with_unfolding_all rfl, by rfl, by rfl, by rfl⟩ : Aq _ _ "gate" ["place"] [1]) (CL (Bi (pv 0) rfl)) (fun _ _ _ _  => (pv 0)) (fun _ _ _ _ => (Od (ptc FG (pxi (DI (K := K) rfl) (pv 0) AB) (pv 1)))))
   (AD (Am (BD (Bi (pv 0) rfl) (Bi (pv 0) rfl)))
   (AE (Fw (pv 0) (AQ Jc (by rfl) T.z_sorted Fk (AA (AL E5 (pv 3) (pv 2)) AC)) rfl))))), ?_⟩
  obtain ⟨dx, eb⟩ := hb.at_
  obtain ⟨as, es, ga⟩ := hb.st
  obtain ⟨ps, ep, pr, hps⟩ := hb.pa
  have lp := Paired.length pr
  walk_at "Q"
  walk_at "RD"
  refine ⟨_, dx, _, eb, T.cl_Beach, T.n_Beach_past, _, rfl, ?_⟩
  refine ⟨_, rfl, _, .inl (SqL.of ep), ?_⟩
  rw [List.length_map, lp]
  by_cases h3 : 300 ≤ past.length
  ·rw [if_pos (decide_eq_true (by lia))]
   exact ⟨by decide, kE h3⟩
  ·rw [if_neg (fun z => h3 (by have := of_decide_eq_true z; lia))]
   walk_at "NX"
   walk_at "Q"
   delta Dh
   refine ⟨_, dx, _, eb, T.cl_Beach, T.n_Beach_standing, _, rfl, _, rfl, ⟨_, SqL.of es⟩, fun D nD => ?_⟩
   refine KB (fun g => !decide (g.p = p)) (SqL.of es) ga nD (by have := hb.std.len; lia) (fun v g H1 R hg s1 ev hR => ?_) fun H1 as1 s1 e1 ga1 => ?_
   ·delta Option.join_some
    refine ⟨_, SqT.of ev, _, rfl, rfl, ?_⟩
    rw [show decide (V.int g.p = V.int p) = decide (g.p = p) from decide_eq_decide.mpr ⟨fun z => V.int.inj z, fun z => by rw [z]⟩]
    exact hR
   ·have eb1 := s1.get eb
    have ep1 := s1.get ep
    walk_at "NX"
    walk_at "Q"
    walk_at "RD"
    refine ⟨_, dx, _, eb1, T.cl_Beach, T.n_Beach_past, _, rfl, _, rfl, ⟨_, ep1⟩, _, dx, _, eb1, T.cl_Beach, T.n_Beach_standing, _, rfl, _, ep1, by rw [List.length_map, lp, PySem.sizeLine_eq]; lia, ?_⟩
    walk_at "NX"
    walk_at "RD"
    have bP : b ≠ P := A4 eb ep (by simp)
    have lP : l ≠ P := fun z => hlo (by rw [z]; exact hb.po)
    have DP : D ≠ P := (AO ep nD).symm
    have el1 : upd H1 P (.lst (ps.map V.ref ++ [V.ref S])) l = some (.lst (ls.map V.ref)) := (AI lP).trans (s1.get el)
    have e1' : upd H1 P (.lst (ps.map V.ref ++ [V.ref S])) D = some (.lst (as1.map V.ref)) := (AI DP).trans e1
    have lo := Ax.len go
    have l1 := Ax.len ga1
    have lf := List.length_filter_le (fun g : G => !decide (g.p = p)) gs
    have l40 := hb.std.len
    have lpo := Gh (gs := gs) (p := p) (o := o)
    have l40' := std.len
    refine ⟨_, e1', _, el1, by rw [List.length_map, List.length_map, PySem.sizeLine_eq]; lia, fun M H2 n2 s2 e2 => ?_⟩
    have kt : ∀ a xs, H a = some (.tup xs) → H2 a = some (.tup xs) := fun a xs e => s2.get ((AI (hb.nep e fun _ z => by cases z)).trans (s1.get e))
    have kt1 : ∀ a xs, H1 a = some (.tup xs) → H2 a = some (.tup xs) := fun a xs e => s2.get ((AI (A4 e ep1 (fun z => by cases z))).trans e)
    have ga2 : Ax H2 (as1 ++ ls) ((gs.filter fun g => !decide (g.p = p)) ++ o) := Ax.append (ga1.keep kt1) (go.keep kt)
    refine ⟨as1 ++ ls, by rw [List.map_append]; exact SqL.of e2, _, ga2, ?_, by rw [List.length_append]; lia, fun S' H3 as3 gs3 n3 s3 e3 ga3 pm ac => ?_⟩
    ·exact ((EB (gs := gs) (p := p) (o := o)).map G.p).nodup_iff.mp std.nd
    have eg : gs3 = Bd gs p o := GA ac std.asc (pm.trans EB.symm)
    subst eg
    have eP3 : H3 P = some (.lst ((ps ++ [S]).map V.ref)) := by rw [List.map_append]; exact s3.get (s2.get AG)
    have eb3 : H3 b = some (.ins T.C_Beach dx [("standing", .ref S), ("past", .ref P)]) := s3.get (s2.get ((AI bP).trans eb1))
    have kp3 : Kp b P H H3 := fun a u h1 h2 e => s3.get (s2.get ((AI h2).trans (s1.get e)))
    have fr : ∀ a, H3 a = none → H a = none := fun a e => by
     cases q : H a with
     | none => rfl
     | some u =>
      by_cases hb' : a = b
      ·rw [hb', eb3] at e; cases e
      ·by_cases hP : a = P
       ·rw [hP, eP3] at e; cases e
       ·rw [kp3 a u hb' hP q] at e; cases e
    have n3H : H S' = none := by
     cases q : H S' with
     | none => rfl
     | some u =>
      by_cases hb' : S' = b
      ·rw [hb', s2.get ((AI bP).trans eb1)] at n3; cases n3
      ·by_cases hP : S' = P
       ·rw [hP, s2.get AG] at n3; cases n3
       ·rw [s2.get ((AI hP).trans (s1.get q))] at n3; cases n3
    have Sb : S' ≠ b := (AO eb n3H).symm
    have SP' : S' ≠ P := (AO ep n3H).symm
    have kt3 : ∀ a xs, H a = some (.tup xs) → H3 a = some (.tup xs) := fun a xs e => s3.get (kt a xs e)
    have kb : ∀ a xs, H3 a = some (.tup xs) → upd H3 b (.ins T.C_Beach dx [("standing", .ref S'), ("past", .ref P)]) a = some (.tup xs) := fun a xs e => (AI (A4 e eb3 (fun z => by cases z))).trans e
    refine ⟨_, dx, _, eb3, T.cl_Beach, T.n_Beach_standing, by show 2 < 1000; decide, k (by lia) _ S' (S' :: S :: ow) S' (kp3.upd (.inl rfl)) ?_ fun a ha => ?_⟩
    ·refine ⟨⟨dx, AG⟩, ⟨as3, (AI Sb).trans e3, ga3.keep kb⟩, ⟨ps ++ [S], (AI bP.symm).trans eP3, Paired.snoc (Paired.keepM pr fun x y hx q => ?_) ?_, fun a ha => ?_⟩, SP', by simp, by simp [hb.po], std, fun x hx => ?_, by rw [List.length_append]; simp only [List.length_singleton]; lia, fun a ha => ?_⟩
     ·have hxo := hps x hx
      obtain ⟨_, ex⟩ := hb.lv x hxo.1
      have hxb : x ≠ b := hb.neb ex fun _ _ _ z => by cases z
      exact q.keep (fun u e => (AI hxb).trans (kp3 x u hxb hxo.2 e)) fun a xs e => kb a xs (kt3 a xs e)
     ·have hSb : S ≠ b := hb.neb es fun _ _ _ z => by cases z
      exact hb.st.keep (fun u e => (AI hSb).trans (kp3 S u hSb hb.sp e)) fun a xs e => kb a xs (kt3 a xs e)
     ·rcases List.mem_append.mp ha with z | z
      ·exact ⟨by simp [(hps a z).1], (hps a z).2⟩
      ·rw [List.mem_singleton.mp z]; exact ⟨by simp, hb.sp⟩
     ·rcases List.mem_append.mp hx with z | z
      ·exact hb.stds x z
      ·rw [List.mem_singleton.mp z]; exact hb.std
     ·have hown : ∀ a ∈ ow, ∃ xs, upd H3 b (.ins T.C_Beach dx [("standing", .ref S'), ("past", .ref P)]) a = some (.lst xs) := fun a ha => by
       obtain ⟨xs, ex⟩ := hb.lv a ha
       have hxb : a ≠ b := hb.neb ex fun _ _ _ z => by cases z
       by_cases hP : a = P
       ·rw [hP]; exact ⟨_, (AI bP.symm).trans eP3⟩
       ·exact ⟨xs, (AI hxb).trans (kp3 a _ hxb hP ex)⟩
      rcases List.mem_cons.mp ha with z | z
      ·rw [z]; exact ⟨_, (AI Sb).trans e3⟩
      ·rcases List.mem_cons.mp z with z | z
       ·rw [z]; exact hown S hb.so
       ·exact hown a z
    ·rcases List.mem_cons.mp ha with z | z
     ·rw [z]; exact .inr n3H
     ·rcases List.mem_cons.mp z with z | z
      ·rw [z]; exact .inl hb.so
      ·exact .inl z
theorem FD : AN ["self", "place", "foot", "head", "gate"] ["self", "place", "foot", "head"] (AF D5) := by walk_at "SC"
noncomputable def Jb {w : World} {K : PySem.W.Frag} {mg : Str → Option Value} (T : Tx w K mg) : Sp := fun vs H Q E => ∃ (b S P : Addr) (ow : List Addr) (gs : List G) (past : List (List G)) (p f h : Int), vs = [.ref b, .int p, .int f, .int h] ∧ Bch T.C_Beach H b S P ow gs past ∧ (∀ e, FS gs past p f h = some e → ∀ H', AH H H' → E (T.err e) none H') ∧ (FS gs past p f h = none → ∀ H' S' ow' (D : Addr), Kp b P H H' → Bch T.C_Beach H' b S' P ow' (Bd gs p [⟨p, f, h⟩]) (past ++ [gs]) → (∀ a ∈ ow', a ∈ ow ∨ H a = none) → H' D = some (.tup [.int p, .int f, .int h]) → Q (.ref D) H')
theorem JP (T : Tx w K mg) : Ag P w K mg base (CXE P w) 2 T.f_Beach_put T.fd_Beach_put ["self", "place", "foot", "head"] (Jb T) := by
 refine T.d_Beach_put.F.okX FD (fun _ _ _ _ h => by walk_at "LN") ?_
 ·walk_at "I2"
  obtain ⟨b, S, P, ow, gs, past, p, f, h', rfl, hb, kE, k⟩ := h
  refine ⟨_, (AD (Ai (Ej (BQ (pv 0) T.cl_Beach T.d_Beach_has_gate.mt (FP T) (hr.mono (by decide)) T.d_Beach_has_gate.b .nil Al (AA (pv 1) AC))) (AE (BK Dt rfl T.e_Taken (by rfl) T.m_Taken (AA AJ AC)))
    AT)
   (AD (pst 4 FD (BE (AA (pv 1) (AA (pv 2) (AA (pv 3) AC)))))
   (AD (Am (pcl T.d_check_gate (EY T) hr BG (AA (pv 4) AC)))
   (AD (Ai (ptc Lv (AQ AR (by rfl) T.z_len Ar (AA (Bi (pv 0) rfl) AC)) (D9 (v := .int (40)) (by rfl) T.k_MOST_GATES T.r_MOST_GATES)) (AE (BK Dt rfl T.e_BeachFull (by rfl) T.m_BeachFull (AA AJ AC)))
    AT)
   (AD (Am (BQ (pv 0) T.cl_Beach T.d_Beach_do_deed.mt (Bl T) (hr.mono (by decide)) T.d_Beach_do_deed.b .nil BG (AA (pv 1) (AA (Aa (AA (pv 4) AC)) AC))))
   (AE (AM (pv 4)))))))), ?_⟩
  obtain ⟨dx, eb⟩ := hb.at_
  obtain ⟨as, es, ga⟩ := hb.st
  have las := ga.len
  walk_at "Q"
  walk_at "RD"
  refine ⟨_, _, eb, rfl, b, S, P, ow, gs, past, p, rfl, hb, fun H1 s1 => ?_⟩
  have hb1 := hb.same s1
  by_cases hp : p ∈ Ab gs
  ·refine ⟨_, rfl, ?_⟩
   rw [if_pos (decide_eq_true hp)]
   exact ⟨by decide, kE .taken (by unfold FS; rw [if_pos hp]) _ s1⟩
  refine ⟨_, rfl, ?_⟩
  rw [if_neg (fun z => hp (of_decide_eq_true z))]
  walk_at "NX"
  walk_at "Q"
  walk_at "RD"
  refine ⟨by decide, fun q H2 n2 s2 e2 => ?_⟩
  walk_at "NX"
  walk_at "Q"
  walk_at "RD"
  refine ⟨q, p, f, h', rfl, e2, fun e he => kE e (by unfold FS; rw [if_neg hp, he]; rfl) _ (s1.trans s2), fun hok => ?_⟩
  have hb2 := hb1.same s2
  obtain ⟨dx, eb⟩ := hb2.at_
  obtain ⟨as, es, ga⟩ := hb2.st
  have las := ga.len
  walk_at "NX"
  walk_at "Q"
  walk_at "RD"
  refine ⟨_, dx, _, eb, T.cl_Beach, T.n_Beach_standing, _, rfl, _, rfl, _, .inl (SqL.of es), ?_⟩
  rw [List.length_map, las]
  by_cases h4 : 40 ≤ gs.length
  ·rw [if_pos (decide_eq_true (by lia))]
   exact ⟨by decide, kE .full (by unfold FS; rw [if_neg hp, hok, if_pos h4]; rfl) _ (s1.trans s2)⟩
  rw [if_neg (fun z => h4 (by have := of_decide_eq_true z; lia))]
  walk_at "NX"
  walk_at "RD"
  refine ⟨dx, _, eb, rfl, by decide, fun l H3 n3 s3 e3 => ?_⟩
  have hb3 := hb2.same s3
  have ok := Bk.mp hok
  refine ⟨b, S, P, ow, gs, past, p, l, [q], [⟨p, f, h'⟩], rfl, hb3, fun z => ?_, e3, .cons (s3.get e2) .nil, fun g hg => by rw [List.mem_singleton.mp hg], hb.std.put ok (by rw [KS hp]; lia), fun h3 => kE .deeds (by unfold FS; rw [if_neg hp, hok, if_neg h4, if_pos h3]; rfl) _ (s1.trans (s2.trans s3)), fun h3 H4 S' ow' _ k4 b4 o4 => ?_⟩
  ·exact hb2.off n3 z
  ·refine k (by unfold FS; rw [if_neg hp, hok, if_neg h4, if_neg (by lia)]; rfl) H4 S' ow' q ((Kp.of (s1.trans (s2.trans s3))).trans k4) b4 (fun a ha => ?_) (hb3.tup k4 (s3.get e2))
   exact (o4 a ha).imp id fun z => (s1.trans (s2.trans s3)).free z
theorem EN : AN ["self", "place", "gate"] ["self", "place"] (AF DQ) := by walk_at "SC"
noncomputable def Hh {w : World} {K : PySem.W.Frag} {mg : Str → Option Value} (T : Tx w K mg) : Sp := fun vs H Q E => ∃ (b S P : Addr) (ow : List Addr) (gs : List G) (past : List (List G)) (p : Int), vs = [.ref b, .int p] ∧ Bch T.C_Beach H b S P ow gs past ∧ (∀ e, C2 gs past p = some e → ∀ H', AH H H' → E (T.err e) none H') ∧ (∀ g, AW gs p = some g → C2 gs past p = none → ∀ H' S' ow' (D : Addr), Kp b P H H' → Bch T.C_Beach H' b S' P ow' (Bd gs p []) (past ++ [gs]) → (∀ a ∈ ow', a ∈ ow ∨ H a = none) → H' D = some (.tup (G.vs g)) → Q (.ref D) H')
theorem Hw (T : Tx w K mg) : Ag P w K mg base (CXE P w) 2 T.f_Beach_take T.fd_Beach_take ["self", "place"] (Hh T) := by
 refine T.d_Beach_take.F.okX EN (fun _ _ _ _ h => by walk_at "LN") ?_
 ·walk_at "I2"
  obtain ⟨b, S, P, ow, gs, past, p, rfl, hb, kE, k⟩ := h
  refine ⟨_, (AD (pst 2 EN (BQ (pv 0) T.cl_Beach T.d_Beach_gate_at.mt (C7 T) (hr.mono (by decide)) T.d_Beach_gate_at.b .nil BG (AA (pv 1) AC)))
   (AD (Am (BQ (pv 0) T.cl_Beach T.d_Beach_do_deed.mt (Bl T) (hr.mono (by decide)) T.d_Beach_do_deed.b .nil BG (AA (pv 1) (AA (Aa AC) AC))))
   (AE (AM (pv 2))))), ?_⟩
  obtain ⟨dx, eb⟩ := hb.at_
  walk_at "RD"
  refine ⟨dx, _, eb, rfl, b, S, P, ow, gs, past, p, rfl, hb, fun hp => kE .nogate (by unfold C2; rw [if_neg hp]) _ (AH.refl _), fun D g hg eD => ?_⟩
  obtain ⟨hgm, hgp⟩ := Aw hg
  have hp : p ∈ Ab gs := List.mem_map.mpr ⟨g, hgm, hgp⟩
  refine ⟨dx, _, eb, rfl, by decide, fun l H1 n1 s1 e1 => ?_⟩
  have hb1 := hb.same s1
  refine ⟨b, S, P, ow, gs, past, p, l, [], [], rfl, hb1, hb.off n1, e1, .nil, fun g hg => absurd hg (by simp), hb.std.take, fun h3 => kE .deeds (by unfold C2 Bz; rw [if_pos hp, if_pos h3]) _ s1, fun h3 H4 S' ow' _ k4 b4 o4 => ?_⟩
  exact k g hg (by unfold C2 Bz; rw [if_pos hp, if_neg (by lia)]) H4 S' ow' D ((Kp.of s1).trans k4) b4 (fun a ha => (o4 a ha).imp id s1.free) (hb1.tup k4 (s1.get eD))
theorem Cq : AN ["self", "place", "foot_by", "head_by", "before", "gate"] ["self", "place", "foot_by", "head_by"] (AF DF) := by walk_at "SC"
noncomputable def He {w : World} {K : PySem.W.Frag} {mg : Str → Option Value} (T : Tx w K mg) : Sp := fun vs H Q E => ∃ (b S P : Addr) (ow : List Addr) (gs : List G) (past : List (List G)) (p x y : Int), vs = [.ref b, .int p, .int x, .int y] ∧ Bch T.C_Beach H b S P ow gs past ∧ (∀ e, Ba gs past p x y = some e → ∀ H', AH H H' → E (T.err e) none H') ∧ (∀ g, AW gs p = some g → Ba gs past p x y = none → ∀ H' S' ow' (D : Addr), Kp b P H H' → Bch T.C_Beach H' b S' P ow' (Bd gs p [⟨p, g.f + x, g.h + y⟩]) (past ++ [gs]) → (∀ a ∈ ow', a ∈ ow ∨ H a = none) → H' D = some (.tup [.int p, .int (g.f + x), .int (g.h + y)]) → Q (.ref D) H')
theorem EM (T : Tx w K mg) : Ag P w K mg base (CXE P w) 2 T.f_Beach_lift T.fd_Beach_lift ["self", "place", "foot_by", "head_by"] (He T) := by
 refine T.d_Beach_lift.F.okX Cq (fun _ _ _ _ h => by walk_at "LN") ?_
 ·walk_at "I2"
  obtain ⟨b, S, P, ow, gs, past, p, x, y, rfl, hb, kE, k⟩ := h
  refine ⟨_, (AD (pst 4 Cq (BQ (pv 0) T.cl_Beach T.d_Beach_gate_at.mt (C7 T) (hr.mono (by decide)) T.d_Beach_gate_at.b .nil BG (AA (pv 1) AC)))
   (AD (pst 5 Cq (BE (AA (pxi BA (pv 4) AB) (AA (AL Bh (pxi BA (pv 4) AB) (pv 2)) (AA (AL Bh (pxi BA (pv 4) AB) (pv 3)) AC)))))
   (AD (Am (pcl T.d_check_gate (EY T) hr BG (AA (pv 5) AC)))
   (AD (Am (BQ (pv 0) T.cl_Beach T.d_Beach_do_deed.mt (Bl T) (hr.mono (by decide)) T.d_Beach_do_deed.b .nil BG (AA (pv 1) (AA (Aa (AA (pv 5) AC)) AC))))
   (AE (AM (pv 5))))))), ?_⟩
  obtain ⟨dx, eb⟩ := hb.at_
  walk_at "Q"
  walk_at "RD"
  refine ⟨dx, _, eb, rfl, b, S, P, ow, gs, past, p, rfl, hb, fun hp => kE .nogate (by unfold Ba; rw [Bs.mpr hp]) _ (AH.refl _), fun D g hg eD => ?_⟩
  obtain ⟨hgm, hgp⟩ := Aw hg
  have le : Ba gs past p x y = (DA p (g.f + x) (g.h + y)).or (Bz past) := by unfold Ba; rw [hg]
  walk_at "NX"
  walk_at "Q"
  walk_at "RD"
  refine ⟨_, SqT.of eD, _, rfl, _, SqT.of eD, _, rfl, _, rfl, _, SqT.of eD, _, rfl, _, rfl, by decide, fun q H1 n1 s1 e1 => ?_⟩
  rw [hgp] at e1
  walk_at "NX"
  walk_at "Q"
  walk_at "RD"
  refine ⟨q, p, g.f + x, g.h + y, rfl, e1, fun e he => kE e (by rw [le, he]; rfl) _ s1, fun hok => ?_⟩
  have hb1 := hb.same s1
  obtain ⟨dx, eb⟩ := hb1.at_
  walk_at "NX"
  walk_at "RD"
  refine ⟨dx, _, eb, rfl, by decide, fun l H2 n2 s2 e2 => ?_⟩
  have hb2 := hb1.same s2
  refine ⟨b, S, P, ow, gs, past, p, l, [q], [⟨p, g.f + x, g.h + y⟩], rfl, hb2, hb1.off n2, e2, .cons (s2.get e1) .nil, fun g hg => by rw [List.mem_singleton.mp hg], hb.std.put (Bk.mp hok) (by rw [← hgp]; exact Nat.lt_of_lt_of_le (NA hgm) hb.std.len), fun h3 => kE .deeds (by rw [le, hok]; unfold Bz; rw [if_pos h3]; rfl) _ (s1.trans s2), fun h3 H4 S' ow' _ k4 b4 o4 => ?_⟩
  exact k g hg (by rw [le, hok]; unfold Bz; rw [if_neg (by lia)]; rfl) H4 S' ow' q ((Kp.of (s1.trans s2)).trans k4) b4 (fun a ha => (o4 a ha).imp id (s1.trans s2).free) (hb2.tup k4 (s2.get e1))
theorem IC : AN ["self", "place", "foot_by", "head_by"] ["self", "place", "foot_by", "head_by"] (AF DD) := by walk_at "SC"
noncomputable def IJ {w : World} {K : PySem.W.Frag} {mg : Str → Option Value} (T : Tx w K mg) : Sp := fun vs H Q E => ∃ (b S P : Addr) (ow : List Addr) (gs : List G) (past : List (List G)) (p x y : Int), vs = [.ref b, .int p, .int x, .int y] ∧ Bch T.C_Beach H b S P ow gs past ∧ (∀ e, Ba gs past p (-x) (-y) = some e → ∀ H', AH H H' → E (T.err e) none H') ∧ (∀ g, AW gs p = some g → Ba gs past p (-x) (-y) = none → ∀ H' S' ow' (D : Addr), Kp b P H H' → Bch T.C_Beach H' b S' P ow' (Bd gs p [⟨p, g.f + (-x), g.h + (-y)⟩]) (past ++ [gs]) → (∀ a ∈ ow', a ∈ ow ∨ H a = none) → H' D = some (.tup [.int p, .int (g.f + (-x)), .int (g.h + (-y))]) → Q (.ref D) H')
theorem Hf (T : Tx w K mg) : Ag P w K mg base (CXE P w) 3 T.f_Beach_sink T.fd_Beach_sink ["self", "place", "foot_by", "head_by"] (IJ T) := by
 refine T.d_Beach_sink.F.okX IC (fun _ _ _ _ h => by walk_at "LN") ?_
 ·walk_at "I2"
  obtain ⟨b, S, P, ow, gs, past, p, x, y, rfl, hb, kE, k⟩ := h
  refine ⟨_, (AE (AM (BQ (pv 0) T.cl_Beach T.d_Beach_lift.mt (EM T) (hr.mono (by decide)) T.d_Beach_lift.b .nil BG (AA (pv 1) (AA (Fy Dv (pv 2)) (AA (Fy Dv (pv 3)) AC)))))), ?_⟩
  obtain ⟨dx, eb⟩ := hb.at_
  walk_at "RD"
  exact ⟨dx, _, eb, rfl, b, S, P, ow, gs, past, p, -x, -y, rfl, hb, kE, k⟩
theorem EX : AN ["self", "many", "left"] ["self", "many"] (AF DH) := by walk_at "SC"
noncomputable def IL {w : World} {K : PySem.W.Frag} {mg : Str → Option Value} (T : Tx w K mg) : Sp := fun vs H Q E => ∃ (b S P : Addr) (ow : List Addr) (gs : List G) (past : List (List G)) (n : Int), vs = [.ref b, .int n] ∧ Bch T.C_Beach H b S P ow gs past ∧ (∀ e, Db past n = some e → E (T.err e) none H) ∧ (Db past n = none → ∀ H' S' P' ow', Kp b b H H' → Bch T.C_Beach H' b S' P' ow' (past.getD (past.length - n.toNat) []) (past.take (past.length - n.toNat)) → (∀ a ∈ ow', a ∈ ow ∨ H a = none) → Q (.int ((past.take (past.length - n.toNat)).length : Int)) H')
theorem EJ (T : Tx w K mg) : Ag P w K mg base (CXE P w) 1 T.f_Beach_back T.fd_Beach_back ["self", "many"] (IL T) := by
 refine T.d_Beach_back.F.okX EX (fun _ _ _ _ h => by walk_at "LN") ?_
 ·walk_at "I2"
  obtain ⟨b, S, P, ow, gs, past, n, rfl, hb, kE, k⟩ := h
  refine ⟨_, (AD (Ai (ptc KW (pv 1) AB) (AE (BK Dt rfl T.e_OutOfBounds (by rfl) T.m_OutOfBounds (AA AJ AC)))
    AT)
   (AD (Ai (ptc ER (pv 1) (AQ AR (by rfl) T.z_len Ar (AA (Bi (pv 0) rfl) AC))) (AE (BK Dt rfl T.e_NothingBack (by rfl) T.m_NothingBack (AA AJ AC)))
    AT)
   (AD (pst 2 EX (AL BI (AQ AR (by rfl) T.z_len Ar (AA (Bi (pv 0) rfl) AC)) (pv 1)))
   (AD (Fw (pv 0) (pxi AK (Bi (pv 0) rfl) (pv 2)) rfl)
   (AD (Fw (pv 0) (Du KP (Bi (pv 0) rfl) GZ (ED (pv 2))) rfl)
   (AE (AM (pv 2)))))))), ?_⟩
  obtain ⟨dx, eb⟩ := hb.at_
  obtain ⟨ps, ep, pr, hps⟩ := hb.pa
  have lp := Paired.length pr
  have lm : (ps.map V.ref).length = past.length := by rw [List.length_map, lp]
  unfold Db at kE k
  walk_at "Q"
  walk_at "RD"
  by_cases h1 : n < 1
  ·rw [if_pos (decide_eq_true h1)]
   rw [if_pos h1] at kE
   exact ⟨by decide, kE _ rfl⟩
  rw [if_neg (fun z => h1 (of_decide_eq_true z))]
  rw [if_neg h1] at kE k
  walk_at "NX"
  walk_at "Q"
  walk_at "RD"
  refine ⟨_, dx, _, eb, T.cl_Beach, T.n_Beach_past, _, rfl, _, rfl, _, .inl (SqL.of ep), ?_⟩
  rw [lm]
  by_cases h2 : (past.length : Int) < n
  ·rw [if_pos (decide_eq_true h2)]
   rw [if_pos h2] at kE
   exact ⟨by decide, kE _ rfl⟩
  rw [if_neg (fun z => h2 (of_decide_eq_true z))]
  rw [if_neg h2] at k
  walk_at "NX"
  walk_at "Q"
  walk_at "RD"
  refine ⟨_, dx, _, eb, T.cl_Beach, T.n_Beach_past, _, rfl, _, rfl, _, .inl (SqL.of ep), ?_⟩
  rw [lm]
  walk_at "NX"
  walk_at "RD"
  obtain ⟨j, hj⟩ : ∃ j : Nat, (past.length : Int) - n = j := ⟨((past.length : Int) - n).toNat, by lia⟩
  have ej : past.length - n.toNat = j := by lia
  rw [ej] at k
  have hjl : j < past.length := by lia
  obtain ⟨S', hS', gS'⟩ := Paired.get pr (List.getElem?_eq_getElem hjl)
  have hSm : S' ∈ ps := List.mem_of_getElem? hS'
  have hSo := hps S' hSm
  obtain ⟨xs', eS'⟩ := hb.lv S' hSo.1
  have Sb : S' ≠ b := hb.neb eS' fun _ _ _ z => by cases z
  have bP : b ≠ P := A4 eb ep (by simp)
  have hix : atI (ps.map V.ref) ((past.length : Int) - n) = some (V.ref S') := by rw [hj]; exact KQ hS'
  refine ⟨_, dx, _, eb, T.cl_Beach, T.n_Beach_past, _, rfl, _, rfl, _, SqL.of ep, _, hix, _, dx, _, eb, T.cl_Beach, T.n_Beach_standing, (by show 2 < 1000; decide), ?_⟩
  refine ⟨_, dx, _, AG, T.cl_Beach, T.n_Beach_past, _, rfl, _, rfl, _, SqL.of ((AI bP.symm).trans ep), ?_⟩
  intro P2 H2 n2 s2 e2
  have hcut : GO (ps.map V.ref) none (some ((past.length : Int) - n)) = (ps.take j).map V.ref := by
   rw [hj]
   exact (LX).trans (List.map_take).symm
  rw [hcut] at e2
  have nP2 : H P2 = none := by
   have h1 : P2 ≠ b := fun z => by rw [z, AG] at n2; cases n2
   rwa [AI h1] at n2
  have P2b : P2 ≠ b := (AO eb nP2).symm
  have hv : (past.length : Int) - n = ((past.take j).length : Int) := by rw [List.length_take]; lia
  rw [hv]
  have kp2 : ∀ a u, a ≠ b → H a = some u → H2 a = some u := fun a u ha e => s2.get ((AI ha).trans e)
  have kp : Kp b b H (upd H2 b (.ins T.C_Beach dx [("standing", .ref S'), ("past", .ref P2)])) := fun a u ha _ e => (AI ha).trans (kp2 a u ha e)
  have kt : ∀ a xs, H a = some (.tup xs) → upd H2 b (.ins T.C_Beach dx [("standing", .ref S'), ("past", .ref P2)]) a = some (.tup xs) := fun a xs e => kp a _ (hb.neb e fun _ _ _ z => by cases z) (hb.neb e fun _ _ _ z => by cases z) e
  have kl : ∀ a ∈ ow, ∀ u, H a = some u → upd H2 b (.ins T.C_Beach dx [("standing", .ref S'), ("past", .ref P2)]) a = some u := fun a ha u e => by
   obtain ⟨_, ea⟩ := hb.lv a ha
   have hab := hb.neb ea fun _ _ _ z => by cases z
   exact kp a u hab hab e
  refine ⟨_, dx, _, s2.get AG, T.cl_Beach, T.n_Beach_past, (by show 2 < 1000; decide), k rfl _ S' P2 (P2 :: ow) kp ?_ fun a ha => ?_⟩
  ·have eg : past.getD j [] = past[j] := by rw [List.getD_eq_getElem?_getD, List.getElem?_eq_getElem hjl]; rfl
   rw [eg]
   refine ⟨⟨dx, AG⟩, gS'.keep (kl S' hSo.1) kt, ⟨ps.take j, (AI P2b).trans e2, ?_, fun a ha => ⟨List.mem_cons_of_mem _ (hps a (List.mem_of_mem_take ha)).1, fun z => (by rw [z] at ha; exact hb.off nP2 (hps P2 (List.mem_of_mem_take ha)).1)⟩⟩, fun z => (by rw [z, nP2] at eS'; cases eS'), List.mem_cons_of_mem _ hSo.1, List.mem_cons_self, hb.stds _ (List.getElem_mem hjl), fun x hx => hb.stds x (List.mem_of_mem_take hx), by rw [List.length_take]; have := hb.len; lia, fun a ha => ?_⟩
   ·exact Paired.keepM (Paired.takeP pr j) fun x y hx q => q.keep (kl x (hps x (List.mem_of_mem_take hx)).1) kt
   ·rcases List.mem_cons.mp ha with z | z
    ·rw [z]; exact ⟨_, (AI P2b).trans e2⟩
    ·obtain ⟨xs, ea⟩ := hb.lv a z
     exact ⟨xs, kl a z _ ea⟩
  ·rcases List.mem_cons.mp ha with z | z
   ·rw [z]; exact .inr nP2
   ·exact .inl z
theorem HH : AN ["self"] ["self"] (AF Cg) := by walk_at "SC"
noncomputable def HM {w : World} {K : PySem.W.Frag} {mg : Str → Option Value} (T : Tx w K mg) : Sp := fun vs H Q E => ∃ (b S P : Addr) (ow : List Addr) (gs : List G) (past : List (List G)), vs = [.ref b] ∧ Bch T.C_Beach H b S P ow gs past ∧ ∀ H' D as, H D = none → AH H H' → H' D = some (.lst (as.map V.ref)) → Ax H' as gs → Q (.ref D) H'
theorem G8 (T : Tx w K mg) : Ag P w K mg base CX0 1 T.f_Beach_gates T.fd_Beach_gates ["self"] (HM T) := by
 refine T.d_Beach_gates.F.ok HH (fun _ _ _ _ h => by walk_at "LN") ?_
 ·walk_at "I2"
  obtain ⟨b, S, P, ow, gs, past, rfl, hb, k⟩ := h
  refine ⟨_, (AE (AM (Af HG (by rfl) T.z_list GV (AA (Bi (pv 0) rfl) AC)))), ?_⟩
  obtain ⟨dx, eb⟩ := hb.at_
  obtain ⟨as, es, ga⟩ := hb.st
  walk_at "RD"
  refine ⟨_, dx, _, eb, T.cl_Beach, T.n_Beach_standing, _, rfl, ?_⟩
  refine ⟨_, rfl, _, .inl (SqL.of es), fun l H' n s e => ?_⟩
  exact k H' l as n s e (ga.same s)
theorem Gc : AN ["self"] ["self"] (AF Ch) := by walk_at "SC"
noncomputable def Gn {w : World} {K : PySem.W.Frag} {mg : Str → Option Value} (T : Tx w K mg) : Sp := fun vs H Q E => ∃ (b S P : Addr) (ow : List Addr) (gs : List G) (past : List (List G)), vs = [.ref b] ∧ Bch T.C_Beach H b S P ow gs past ∧ Q (.int past.length) H
theorem HI (T : Tx w K mg) : Ag P w K mg base CX0 1 T.f_Beach_deeds T.fd_Beach_deeds ["self"] (Gn T) := by
 refine T.d_Beach_deeds.F.ok Gc (fun _ _ _ _ h => by walk_at "LN") ?_
 ·walk_at "I2"
  obtain ⟨b, S, P, ow, gs, past, rfl, hb, k⟩ := h
  refine ⟨_, (AE (AM (AQ AR (by rfl) T.z_len Ar (AA (Bi (pv 0) rfl) AC)))), ?_⟩
  obtain ⟨dx, eb⟩ := hb.at_
  obtain ⟨ps, ep, pr, _⟩ := hb.pa
  have lp := Paired.length pr
  walk_at "RD"
  refine ⟨_, dx, _, eb, T.cl_Beach, T.n_Beach_past, _, rfl, ?_⟩
  refine ⟨_, rfl, _, .inl (SqL.of ep), ?_⟩
  rw [List.length_map, lp]
  exact k
theorem G9 : AN ["text"] ["text"] (AF Co) := by walk_at "SC"
noncomputable def LZ (c : Nat) : Bool := decide (48 ≤ c ∧ c ≤ 57)
theorem SM {c : Nat} : decide (c ∈ [48, 49, 50, 51, 52, 53, 54, 55, 56, 57]) = LZ c := by
 unfold LZ
 refine decide_eq_decide.mpr ?_
 simp only [List.mem_cons, List.not_mem_nil, or_false]
 omega
theorem OY {l : List Nat} : (l.map LZ).all id = decide (∀ c ∈ l, 48 ≤ c ∧ c ≤ 57) := by
 rw [Bool.eq_iff_iff, List.all_map, List.all_eq_true, decide_eq_true_eq]
 exact ⟨fun h c hc => of_decide_eq_true (h c hc), fun h c hc => decide_eq_true (h c hc)⟩
theorem OQ {l : List Nat} (h : ∀ c ∈ l, c < 128) : (tx l).cps.all (· < 128) = true := by
 show l.toArray.all (· < 128) = true
 rw [List.all_toArray, List.all_eq_true]
 exact fun c hc => decide_eq_true (h c hc)
theorem Pg {l : List Nat} {i : Nat} (h : i < l.length) : sg1 (tx l) i = .str (tx [l[i]]) := by
 unfold sg1
 congr 2
 show #[l.toArray.getD i 0] = #[l[i]]
 rw [Array.getD_eq_getD_getElem?, List.getElem?_toArray, List.getElem?_eq_getElem h]
 rfl
theorem txz {l : List Nat} (h : l.length ≤ 1000000) : (tx l).length ≤ sizeLine := by rw [AS, PySem.sizeLine_eq]; lia
noncomputable def Gi (K : PySem.W.Frag) : Sp := fun vs H Q _ => ∃ l : List Nat, vs = [.str (tx l)] ∧ (∀ c ∈ l, c < 128) ∧ l.length ≤ 100000 ∧ ∀ H', AH H H' → Q (.bl (decide (1 ≤ l.length ∧ l.length ≤ 9 ∧ ∀ c ∈ l, 48 ≤ c ∧ c ≤ 57))) H'
theorem Ga (T : Tx w K mg) : Ag P w K mg base CX0 1 T.f_are_figures T.fd_are_figures ["text"] (Gi K) := by
 refine T.d_are_figures.F.ok G9 (fun _ _ _ _ h => by walk_at "LN") ?_
 ·walk_at "I2"
  obtain ⟨l, rfl, asc, hz, k⟩ := h
  refine ⟨_, (AD (Ai (HX (ptc KW (AQ FV (by rfl) T.z_len Ar (AA (pv 0) AC)) AB) (HQ (ptc ER (AQ FV (by rfl) T.z_len Ar (AA (pv 0) AC)) (D9 (v := .int (9)) (by rfl) T.k_MOST_FIGURES T.r_MOST_FIGURES)))).pt (AE (AM NO))
    AT)
   (AE (AM (AQ (ND (by rfl)) (by rfl) T.z_all T9 (AA (Cc rfl (⟨rfl, by decide +kernel, by decide +kernel, by decide +kernel, rfl, by decide +kernel, by with_unfolding_all rfl, by rfl, by rfl, by rfl⟩ : Aq _ _ "sign" [] []) (QV (pv 0)) (fun _ _ _ _  => (JW MQ (pv 0) (D9 (v := .str "0123456789") (by rfl) T.k_FIGURES T.r_FIGURES) (by with_unfolding_all rfl))) (fun _ _ _ _ => B8)) AC))))), ?_⟩
  walk_at "Q"
  walk_at "RD"
  have hz2 : (tx l).length ≤ sizeLine := txz (by lia)
  refine ⟨hz2, ?_⟩
  rw [AS] at hz2 ⊢
  by_cases h1 : l.length < 1
  ·rw [if_pos (decide_eq_true (by lia))]
   rw [decide_eq_false (by lia)] at k
   exact k _ (AH.refl _)
  rw [if_neg (fun z => h1 (by have := of_decide_eq_true z; lia))]
  refine ⟨hz2, ?_⟩
  by_cases h9 : 9 < l.length
  ·rw [if_pos (decide_eq_true (by lia))]
   rw [decide_eq_false (by lia)] at k
   exact k _ (AH.refl _)
  rw [if_neg (fun z => h9 (by have := of_decide_eq_true z; lia))]
  walk_at "NX"
  delta iStr
  refine ⟨OQ asc, fun D nD => ?_⟩
  refine Nm (fun i ys H' => AH H H' ∧ H' D = some (.lst ys) ∧ ys = ((l.take i).map LZ).map V.bl) ⟨Ac nD, AG, rfl⟩ ?_ ?_
  ·rintro i ys H1 hi hy ⟨s1, e1, e2⟩
   have hi : i < l.length := hi
   have es : (tx l).cps.size = l.length := List.size_toArray ..
   rw [Pg hi]
   walk_at "RD"
   rw [o_fig, Qb, SM]
   refine GF.of (by rw [es]; exact hz2) (by rw [es]; exact hi) hy e1 ⟨s1.updFresh nD, AG, ?_⟩
   rw [e2, List.take_succ_eq_append_getElem hi, List.map_append, List.map_append]
   rfl
  ·rintro ys H1 hy ⟨s1, e1, e2⟩
   have es : (tx l).cps.size = l.length := List.size_toArray ..
   rw [es, List.take_length] at e2
   rw [e2] at e1
   refine ⟨_, SqL.of e1, ?_⟩
   rw [OY]
   have := k _ s1
   rw [show decide (1 ≤ l.length ∧ l.length ≤ 9 ∧ ∀ c ∈ l, 48 ≤ c ∧ c ≤ 57) = decide (∀ c ∈ l, 48 ≤ c ∧ c ≤ 57) from decide_eq_decide.mpr ⟨fun z => z.2.2, fun z => ⟨by lia, by lia, z⟩⟩] at this
   exact this
theorem CT : AN ["text", "figures"] ["text"] (AF Cr) := by walk_at "SC"
theorem Mp : Str.ofString "0" = tx [48] := by rfl
theorem O1 : Str.ofString "-" = tx [45] := by rfl
theorem tyS {K : PySem.W.Frag} {x : Str} {H : Hp} : tyV K "str" (.str x) H := rfl
noncomputable def HN {w : World} {K : PySem.W.Frag} {mg : Str → Option Value} (T : Tx w K mg) : Sp := fun vs H Q E => ∃ l : List Nat, vs = [.str (tx l)] ∧ (∀ c ∈ l, c < 128) ∧ l.length ≤ 100000 ∧ (rdN l = none → ∀ H', AH H H' → E (T.err .badrow) none H') ∧ ∀ n, rdN l = some n → ∀ H', AH H H' → Q (.int n) H'
theorem Gy (T : Tx w K mg) : Ag P w K mg base (CXE P w) 2 T.f_read_number T.fd_read_number ["text"] (HN T) := by
 refine T.d_read_number.F.okX CT (fun _ _ _ _ h => by walk_at "LN") ?_
 ·walk_at "I2"
  obtain ⟨l, rfl, asc, hz, kE, k⟩ := h
  refine ⟨_, (AD (Ai (ptc BR (pv 0) AJ) (AE (AM AB))
    AT)
   (AD (pst 1 CT (pv 0))
   (AD (Ai (Ej (FB PySem.F.plainAttrs_str PySem.F.slot_str_startswith PySem.F.type_str_startswith Im (pv 0) (AA AJ AC))) (AE (pst 1 CT (Du S2 (pv 0) (ED AB) GZ)))
    AT)
   (AD (Ai (HX (Km (Ej (pcl T.d_are_figures (Ga T) hr Al (AA (pv 1) AC)))) (HQ (Ej (FB PySem.F.plainAttrs_str PySem.F.slot_str_startswith PySem.F.type_str_startswith Im (pv 1) (AA AJ AC))))).pt (AE (BK Dt rfl T.e_BadRow (by rfl) T.m_BadRow (AA AJ AC)))
    AT)
   (AE (AM (Af ID (by rfl) T.z_int Kx (AA (pv 0) AC)))))))), ?_⟩
  have hz2 : (tx l).length ≤ sizeLine := txz (by lia)
  walk_at "Q"
  walk_at "RD"
  rw [Mp]
  by_cases h0 : l = [48]
  ·rw [if_pos (decide_eq_true (by rw [h0]))]
   exact k 0 (by unfold rdN; rw [if_pos h0]) _ (AH.refl _)
  rw [if_neg (fun z => h0 (Jl.mp (of_decide_eq_true z)))]
  walk_at "NX"
  walk_at "Q"
  walk_at "RD"
  walk_at "NX"
  walk_at "Q"
  have bl : (bare l).length ≤ l.length := by
   unfold bare
   split
   ·rw [List.length_drop]; lia
   ·lia
  have bm : ∀ c ∈ bare l, c ∈ l := fun c hc => by
   unfold bare at hc
   split at hc
   ·exact List.mem_of_mem_drop hc
   ·exact hc
  have rest : M [some (.str (tx l)), some (.str (tx (bare l)))] H := by
   refine hM _ _ ?_
   clear hM M
   walk_at "Q"
   walk_at "RD"
   refine ⟨bare l, rfl, fun c hc => asc c (bm c hc), by lia, fun H1 s1 => ⟨_, rfl, ?_⟩⟩
   by_cases hf : 1 ≤ (bare l).length ∧ (bare l).length ≤ 9 ∧ ∀ c ∈ bare l, 48 ≤ c ∧ c ≤ 57
   ·rw [decide_eq_true hf, if_neg (by decide)]
    delta tBM Jr
    refine ⟨tyS, ?_⟩
    rw [Mp, Gf]
    by_cases hh : (bare l).head? = some 48
    ·rw [if_pos (by rw [hh]; rfl)]
     exact ⟨by decide, kE (by unfold rdN; rw [if_neg h0, if_neg (fun z => z.2.2.2 hh)]) _ s1⟩
    ·rw [if_neg (fun z => hh (by simpa using z))]
     walk_at "NX"
     walk_at "RD"
     have hr : rdN l = some (if Gs l then -(NumText.digitsVal (bare l) : Int) else NumText.digitsVal (bare l)) := by
      unfold rdN
      rw [if_neg h0, if_pos ⟨hf.1, hf.2.1, hf.2.2, hh⟩]
     have hb0 : bare l ≠ [] := fun z => by rw [z] at hf; exact absurd hf.1 (by simp)
     refine ⟨_, ?_, by rw [AS]; have := hf.2.1; unfold bare at this; split at this <;> (try rw [List.length_drop] at this) <;> lia, k _ hr _ s1⟩
     by_cases hn : Gs l = true
     ·rw [if_pos hn]
      have e : (tx l).cps.toList = 45 :: bare l := by
       show l = _
       unfold bare
       rw [if_pos hn]
       unfold Gs at hn
       cases l with
       | nil => cases hn
       | cons a r =>
        have : a = 45 := by simpa using hn
        rw [this]
        rfl
      exact intText_neg e hf.2.2 hb0 (by rw [AS]; have : l.length = (bare l).length + 1 := congrArg List.length e; lia)
     ·rw [if_neg hn]
      have e : bare l = l := by unfold bare; rw [if_neg hn]
      have h2 := hf.2.2
      rw [e] at h2 hb0 ⊢
      exact intText_digits (x := tx l) h2 hb0 (by rw [AS]; rw [e] at hf; lia)
   ·rw [decide_eq_false hf, if_pos (by decide)]
    exact ⟨by decide, kE (by unfold rdN; rw [if_neg h0, if_neg (fun z => hf ⟨z.1, z.2.1, z.2.2.1⟩)]) _ s1⟩
  clear hM
  delta tBM Jr
  refine ⟨tyS, ?_⟩
  rw [O1, Gf]
  by_cases hn : Gs l = true
  ·have eb : bare l = l.drop 1 := by unfold bare; rw [if_pos hn]
   rw [eb] at rest
   unfold Gs at hn
   rw [if_pos hn]
   refine ⟨_, rfl, hz2, ?_⟩
   rw [show (some 1 : Option Int) = some ((1 : Nat) : Int) from rfl, LJ]
   exact rest
  ·have eb : bare l = l := by unfold bare; rw [if_neg hn]
   rw [eb] at rest
   unfold Gs at hn
   rw [if_neg hn]
   exact rest
theorem Hu : AN ["words", "many"] ["words", "many"] (AF DK) := by walk_at "SC"
noncomputable abbrev OkW (ws : List (List Nat)) : Prop := (∀ p ∈ ws, (∀ c ∈ p, c < 128) ∧ p.length ≤ 100000) ∧ ws.length ≤ 100001
noncomputable def numsOf : List (List Nat) → Option (List Int)
 | [] => some []
 | w :: r => match rdN w with
  | none => none
  | some n => (numsOf r).map (n :: ·)
theorem Bb : ∀ {ws : List (List Nat)} {w : List Nat}, w ∈ ws → rdN w = none → numsOf ws = none
 | a :: r, w, h, e => by
  unfold numsOf
  rcases List.mem_cons.mp h with rfl | h
  ·rw [e]
  ·rw [Bb h e]
   cases rdN a <;> rfl
theorem GH : ∀ {ws : List (List Nat)} {ns : List Int} {w : List Nat} {n : Int}, numsOf ws = some ns → rdN w = some n → numsOf (ws ++ [w]) = some (ns ++ [n])
 | [], ns, w, n, h, e => by
  cases (show some [] = some ns from h)
  show numsOf [w] = _
  unfold numsOf
  rw [e]; rfl
 | a :: r, ns, w, n, h, e => by
  unfold numsOf at h
  cases ha : rdN a with
  | none => rw [ha] at h; cases h
  | some m =>
   rw [ha] at h
   obtain ⟨ms, h1, h2⟩ := Option.map_eq_some_iff.mp h
   show numsOf (a :: (r ++ [w])) = _
   unfold numsOf
   rw [ha, ← h2]
   show Option.map _ (numsOf (r ++ [w])) = _
   rw [GH h1 e]; rfl
noncomputable def IF {w : World} {K : PySem.W.Frag} {mg : Str → Option Value} (T : Tx w K mg) : Sp := fun vs H Q E => ∃ (W : Addr) (ws : List (List Nat)) (n : Int), vs = [.ref W, .int n] ∧ SqL K H W (tvs ws) ∧ OkW ws ∧ ((ws.length : Int) ≠ n → E (T.err .badrow) none H) ∧ ((ws.length : Int) = n → Q .non H)
theorem Ck (T : Tx w K mg) : Ag P w K mg base (CXE P w) 1 T.f_check_many T.fd_check_many ["words", "many"] (IF T) := by
 refine T.d_check_many.F.okX Hu (fun _ _ _ _ h => by walk_at "LN") ?_
 ·walk_at "I2"
  obtain ⟨W, ws, n, rfl, hW, ok, kE, k⟩ := h
  refine ⟨_, (AE (Ai (ptc FG (AQ AR (by rfl) T.z_len Ar (AA (pv 0) AC)) (pv 1)) (AE (BK Dt rfl T.e_BadRow (by rfl) T.m_BadRow (AA AJ AC)))
    AT)), ?_⟩
  walk_at "RD"
  refine ⟨_, .inl hW, ?_⟩
  rw [List.length_map]
  by_cases h : (ws.length : Int) = n
  ·rw [decide_eq_true h, if_neg (by decide)]
   exact k h
  ·rw [decide_eq_false h, if_pos (by decide)]
   exact ⟨by decide, kE h⟩
theorem GJ : AN ["words"] ["words"] (AF CS) := by walk_at "SC"
noncomputable def GP {w : World} {K : PySem.W.Frag} {mg : Str → Option Value} (T : Tx w K mg) : Sp := fun vs H Q E => ∃ (W : Addr) (ws : List (List Nat)), vs = [.ref W] ∧ SqL K H W (tvs ws) ∧ OkW ws ∧ (numsOf ws = none → ∀ H', AH H H' → E (T.err .badrow) none H') ∧ ∀ ns, numsOf ws = some ns → ∀ D H', H D = none → AH H H' → H' D = some (.lst (ns.map V.int)) → Q (.ref D) H'
theorem GN (T : Tx w K mg) : Ag P w K mg base (CXE P w) 3 T.f_read_numbers T.fd_read_numbers ["words"] (GP T) := by
 refine T.d_read_numbers.F.okX GJ (fun _ _ _ _ h => by walk_at "LN") ?_
 ·walk_at "I2"
  obtain ⟨W, ws, rfl, hW, ok, kE, k⟩ := h
  refine ⟨_, (AE (AM (M9 rfl (⟨rfl, by decide +kernel, by decide +kernel, by decide +kernel, rfl, by decide +kernel, by with_unfolding_all rfl, by rfl, by rfl, by rfl⟩ : Aq _ _ "word" [] []) (CL (pv 0)) (fun _ _ _ _ _ _ hp => (KN (Gy T) (hr.mono (by decide)) (by rfl) T.d_read_number.m T.d_read_number.F.kp T.d_read_number.b .nil hp (AA (pv 0) AC))) (fun _ _ _ _ => B8)))), ?_⟩
  delta Dh
  refine ⟨⟨_, hW⟩, fun D nD => ?_⟩
  have hz := ok.2
  refine Fa (xs := tvs ws) (fun i ys H' => ∃ ns : List Int, ys = ns.map V.int ∧ AH H H' ∧ H' D = some (.lst ys) ∧ numsOf (ws.take i) = some ns) ⟨[], rfl, Ac nD, AG, rfl⟩ (fun _ _ H' _ ⟨_, _, s2, _⟩ => s2.seq hW) ?_ ?_
  ·rintro i v ys H2 hx hy ⟨ns, rfl, s2, e2, hn⟩
   have hi : i < ws.length := by
    have := (List.getElem?_eq_some_iff.mp hx).1
    rwa [List.length_map] at this
   have ev : v = V.str (tx ws[i]) := by
    rw [List.getElem?_map, List.getElem?_eq_getElem hi] at hx
    exact (Option.some.inj hx).symm
   subst ev
   have et : ws.take (i + 1) = ws.take i ++ [ws[i]] := List.take_succ_eq_append_getElem hi
   have hm := List.getElem_mem hi
   delta K9
   refine ⟨ws[i], rfl, (ok.1 _ hm).1, (ok.1 _ hm).2, fun hr H3 s3 => kE (Bb hm hr) _ (s2.trans s3), fun n hr H3 s3 => ?_⟩
   rw [List.length_map] at hy ⊢
   refine GF.of (by rw [PySem.sizeLine_eq]; lia) hi (by rw [List.length_map]; exact hy) (s3.get e2) ⟨ns ++ [n], by rw [List.map_append]; rfl, (s2.trans s3).updFresh nD, AG, ?_⟩
   rw [et]
   exact GH hn hr
  ·rintro ys H2 hy ⟨ns, rfl, s2, e2, hn⟩
   rw [List.length_map, List.take_length] at hn
   exact k ns hn D H2 nD s2 e2
theorem GI : AN ["words", "many"] ["words", "many"] (AF CV) := by walk_at "SC"
noncomputable def GQ {w : World} {K : PySem.W.Frag} {mg : Str → Option Value} (T : Tx w K mg) : Sp := fun vs H Q E => ∃ (W : Addr) (ws : List (List Nat)) (n : Int), vs = [.ref W, .int n] ∧ SqL K H W (tvs ws) ∧ OkW ws ∧ ((ws.length : Int) ≠ n ∨ numsOf ws = none → ∀ H', AH H H' → E (T.err .badrow) none H') ∧ ∀ ns, (ws.length : Int) = n → numsOf ws = some ns → ∀ D H', H D = none → AH H H' → H' D = some (.lst (ns.map V.int)) → Q (.ref D) H'
theorem BB (T : Tx w K mg) : Ag P w K mg base (CXE P w) 4 T.f_read_so_many T.fd_read_so_many ["words", "many"] (GQ T) := by
 refine T.d_read_so_many.F.okX GI (fun _ _ _ _ h => by walk_at "LN") ?_
 ·walk_at "I2"
  obtain ⟨W, ws, n, rfl, hW, ok, kE, k⟩ := h
  refine ⟨_, (AD (Am (pcl T.d_check_many (Ck T) hr BG (AA (pv 0) (AA (pv 1) AC))))
   (AE (AM (pcl T.d_read_numbers (GN T) hr BG (AA (pv 0) AC))))), ?_⟩
  walk_at "RD"
  exact ⟨W, ws, n, rfl, hW, ok, fun h => kE (.inl h) _ (AH.refl _), fun h => ⟨W, ws, rfl, hW, ok, fun z => kE (.inr z), fun ns hn => k ns h hn⟩⟩
theorem GS : AN ["numbers"] ["numbers"] (AF CP) := by walk_at "SC"
theorem lgT {i : Int} {n : Nat} (h : i.natAbs < 2 ^ n) (hn : 0 < n) (h2 : n ≤ 1900) : i.natAbs.log2 < 1920 := by
 rcases Nat.eq_zero_or_pos i.natAbs with h0 | hp
 ·rw [h0]; decide
 ·have := (Nat.log2_lt (Nat.ne_of_gt hp)).mpr h
  lia
theorem FX {n : Int} (h : n.natAbs ≤ 10 ^ 40) : n.natAbs.log2 < 1920 := lgT (n := 140) (Nat.lt_of_le_of_lt h (by decide +kernel)) (by decide) (by decide)
theorem BS {n : Int} (h : n.natAbs ≤ 10 ^ 40) : (dec n).length ≤ 42 := OT (k := 41) (by decide) (Nat.lt_of_le_of_lt h (by decide +kernel))
theorem Ed {n : Int} (h : -1000 ≤ n ∧ n ≤ 1000) : n.natAbs ≤ 10 ^ 40 := Nat.le_trans (show n.natAbs ≤ 1000 by lia) (by decide +kernel)
noncomputable def GM (K : PySem.W.Frag) : Sp := fun vs H Q _ => ∃ (a : Addr) (ns : List Int), vs = [.ref a] ∧ (SqL K H a (ns.map V.int) ∨ SqT K H a (ns.map V.int)) ∧ (∀ n ∈ ns, n.natAbs ≤ 10 ^ 40) ∧ ns.length ≤ 100000 ∧ ∀ D H', H D = none → AH H H' → H' D = some (.lst (tvs (ns.map dec))) → Q (.ref D) H'
theorem DZ (T : Tx w K mg) : Ag P w K mg base CX0 1 T.f_number_words T.fd_number_words ["numbers"] (GM K) := by
 refine T.d_number_words.F.ok GS (fun _ _ _ _ h => by walk_at "LN") ?_
 ·walk_at "I2"
  obtain ⟨a, ns, rfl, ha, hn, hl, k⟩ := h
  refine ⟨_, (AE (AM (Cc rfl (⟨rfl, by decide +kernel, by decide +kernel, by decide +kernel, rfl, by decide +kernel, by with_unfolding_all rfl, by rfl, by rfl, by rfl⟩ : Aq _ _ "number" [] []) (Pn (pv 0)) (fun _ _ _ _  => (Af Ae (by rfl) T.z_str Bf (AA (pv 0) AC))) (fun _ _ _ _ => B8)))), ?_⟩
  delta iSeq Dh O8
  have go : ∀ (J : It) (D : Addr), ((∃ a, J = Itl K a ∧ SqL K H a (ns.map V.int)) ∨ ∃ a, J = Itt K a ∧ SqT K H a (ns.map V.int)) → H D = none → CW (tCB (fun xs H Q => ∃ i, xs = [V.int i] ∧ i.natAbs.log2 < 1920 ∧ Q (V.str (Str.ofString (toString i))) H) (Dw (Fm 0) Fg)) CU [] J D H fun H' => Q (V.ref D) H' := fun J D hJ nD => by
   refine Oy hJ (by lia) nD (fun n H2 R hm s2 hR => ?_) fun H2 s2 e2 => k D H2 nD s2 e2
   walk_at "RD"
   refine ⟨FX (hn n hm), ?_⟩
   rw [A6]
   exact hR
  exact ha.imp (fun h => ⟨⟨_, h⟩, fun D nD => go _ D (.inl ⟨a, rfl, h⟩) nD⟩) fun h => ⟨⟨_, h⟩, fun D nD => go _ D (.inr ⟨a, rfl, h⟩) nD⟩
theorem Jh : AN ["gate"] ["gate"] (AF Dj) := by walk_at "SC"
noncomputable def Ex (p f h : Int) : List Nat := BU [32] [[103, 97, 116, 101], dec p, dec f, dec h]
theorem LV : Str.ofString " " = tx [32] := by rfl
theorem Qm : Str.ofString "gate" = tx [103, 97, 116, 101] := by rfl
noncomputable def JU (K : PySem.W.Frag) : Sp := fun vs H Q _ => ∃ (a : Addr) (p f h : Int), vs = [.ref a] ∧ H a = some (.tup [.int p, .int f, .int h]) ∧ p.natAbs ≤ 10 ^ 40 ∧ f.natAbs ≤ 10 ^ 40 ∧ h.natAbs ≤ 10 ^ 40 ∧ ∀ H', AH H H' → Q (.str (tx (Ex p f h))) H'
theorem B5 (T : Tx w K mg) : Ag P w K mg base CX0 2 T.f_gate_text T.fd_gate_text ["gate"] (JU K) := by
 refine T.d_gate_text.F.ok Jh (fun _ _ _ _ h => by walk_at "LN") ?_
 ·walk_at "I2"
  obtain ⟨a, p, f, h, rfl, ea, hp, hf, hh, k⟩ := h
  refine ⟨_, (AE (AM (FB PySem.F.plainAttrs_str PySem.F.slot_str_join PySem.F.type_str_join GU AJ (AA (AL E5 (Aa (AA AJ AC)) (pcl T.d_number_words (DZ T) hr Al (AA (pv 0) AC))) AC)))), ?_⟩
  delta tBM Go
  refine ⟨tyS, by decide, fun D1 H1 n1 s1 e1 => ⟨a, [p, f, h], rfl, .inr (SqT.of (s1.get ea)), fun n hn => ?_, by show 3 ≤ 100000; decide, fun D2 H2 n2 s2 e2 => ?_⟩⟩
  ·simp only [List.mem_cons, List.not_mem_nil, or_false] at hn
   rcases hn with rfl | rfl | rfl <;> assumption
  refine ⟨_, rfl, _, s2.get e1, _, e2, by rw [PySem.sizeLine_eq]; show 1 + 3 ≤ _; decide, fun D3 H3 n3 s3 e3 => ⟨[32], LV, [[103, 97, 116, 101], dec p, dec f, dec h], SqL.of (by rw [Qm] at e3; exact e3), ?_, k _ (s1.trans (s2.trans s3))⟩⟩
  have := BS hp
  have := BS hf
  have := BS hh
  simp only [List.map_cons, List.map_nil, List.sum_cons, List.sum_nil, List.length_cons, List.length_nil]
  lia
theorem Hb : AN ["many"] ["many"] (AF DU) := by walk_at "SC"
noncomputable def Cf (n : Int) : List Nat := BU [32] [[100, 101, 101, 100, 115], dec n]
theorem FT : Str.ofString "deeds " = tx [100, 101, 101, 100, 115, 32] := by rfl
noncomputable def II (K : PySem.W.Frag) : Sp := fun vs H Q _ => ∃ (n : Int), vs = [.int n] ∧ n.natAbs ≤ 10 ^ 40 ∧ Q (.str (tx (Cf n))) H
theorem Cs (T : Tx w K mg) : Ag P w K mg base CX0 1 T.f_deeds_text T.fd_deeds_text ["many"] (II K) := by
 refine T.d_deeds_text.F.ok Hb (fun _ _ _ _ h => by walk_at "LN") ?_
 ·walk_at "I2"
  obtain ⟨n, rfl, hn, k⟩ := h
  refine ⟨_, (AE (AM (Oh (pv 0)))), ?_⟩
  delta PN
  rw [A6, FT]
  have := BS hn
  refine ⟨FX hn, by rw [AS, AS, PySem.sizeLine_eq]; simp only [List.length_cons, List.length_nil]; lia, ?_⟩
  rw [Az]
  exact k
theorem Gk : AN ["beach", "words", "numbers"] ["beach", "words"] (AF FW) := by walk_at "SC"
theorem Ir : ∀ {ws : List (List Nat)} {ns : List Int}, numsOf ws = some ns → ns.length = ws.length ∧ ∀ n ∈ ns, n.natAbs ≤ 999999999
 | [], ns, h => by cases (show some [] = some ns from h); exact ⟨rfl, fun _ z => absurd z (by simp)⟩
 | w :: r, ns, h => by
  unfold numsOf at h
  cases ha : rdN w with
  | none => rw [ha] at h; cases h
  | some m =>
   rw [ha] at h
   obtain ⟨ms, h1, rfl⟩ := Option.map_eq_some_iff.mp h
   obtain ⟨h2, h3⟩ := Ir h1
   refine ⟨by rw [List.length_cons, List.length_cons, h2], fun n hn => ?_⟩
   rcases List.mem_cons.mp hn with rfl | hn
   ·exact num9 ha
   ·exact h3 n hn
noncomputable def DR {w : World} {K : PySem.W.Frag} {mg : Str → Option Value} (T : Tx w K mg) : Sp := fun vs H Q E => ∃ (b S P : Addr) (ow : List Addr) (gs : List G) (past : List (List G)) (W : Addr) (ws : List (List Nat)), vs = [.ref b, .ref W] ∧ Bch T.C_Beach H b S P ow gs past ∧ SqL K H W (tvs ws) ∧ OkW ws ∧ (ws.length ≠ 3 ∨ numsOf ws = none → ∀ H', AH H H' → E (T.err .badrow) none H') ∧ ∀ p f h, numsOf ws = some [p, f, h] → (∀ e, FS gs past p f h = some e → ∀ H', AH H H' → E (T.err e) none H') ∧ (FS gs past p f h = none → ∀ H' S' ow', Kp b P H H' → Bch T.C_Beach H' b S' P ow' (Bd gs p [⟨p, f, h⟩]) (past ++ [gs]) → (∀ a ∈ ow', a ∈ ow ∨ H a = none) → Q (.str (tx (Ex p f h))) H')
theorem LP (T : Tx w K mg) : Ag P w K mg base (CXE P w) 5 T.f_put_row T.fd_put_row ["beach", "words"] (DR T) := by
 refine T.d_put_row.F.okX Gk (fun _ _ _ _ h => by walk_at "LN") ?_
 ·walk_at "I2"
  obtain ⟨b, S, P, ow, gs, past, W, ws, rfl, hb, hW, ok, kE, k⟩ := h
  refine ⟨_, (AD (pst 2 Gk (pcl T.d_read_so_many (BB T) hr BG (AA (pv 1) (AA AB AC))))
   (AE (AM (pcl T.d_gate_text (B5 T) hr Al (AA (BQ (pv 0) T.cl_Beach T.d_Beach_put.mt (JP T) (hr.mono (by decide)) T.d_Beach_put.b .nil BG (AA (pxi AK (pv 2) AB) (AA (pxi AK (pv 2) AB) (AA (pxi AK (pv 2) AB) AC)))) AC))))), ?_⟩
  walk_at "Q"
  walk_at "RD"
  refine ⟨W, ws, 3, rfl, hW, ok, fun h H1 s1 => kE (h.imp (fun h z => h (by lia)) id) H1 s1, fun ns h3 hn D H1 n1 s1 e1 => ?_⟩
  walk_at "NX"
  obtain ⟨hl, h9⟩ := Ir hn
  obtain ⟨p, f, h, rfl⟩ := NN (hl.trans (by lia))
  obtain ⟨k1, k2⟩ := k p f h hn
  clear k kE
  have hb1 := hb.same s1
  obtain ⟨dx, eb⟩ := hb1.at_
  walk_at "RD"
  have big : 999999999 ≤ 10 ^ 40 := by decide +kernel
  refine ⟨dx, _, eb, rfl, _, SqL.of e1, _, rfl, _, SqL.of e1, _, rfl, _, SqL.of e1, _, rfl, ?_⟩
  refine ⟨b, S, P, ow, gs, past, p, f, h, rfl, hb1, fun e he H2 s2 => k1 e he _ (s1.trans s2), fun hE H2 S' ow' D2 kp b2 o2 e2 => ?_⟩
  exact ⟨D2, p, f, h, rfl, e2, Nat.le_trans (h9 p (by simp)) big, Nat.le_trans (h9 f (by simp)) big, Nat.le_trans (h9 h (by simp)) big, fun H3 s3 => k2 hE H3 S' ow' ((Kp.of s1).trans (kp.trans (Kp.of s3))) (b2.same s3) fun a ha => (o2 a ha).imp id fun z => s1.free z⟩
theorem GC : AN ["beach", "words", "numbers"] ["beach", "words"] (AF Eh) := by walk_at "SC"
noncomputable def CY {w : World} {K : PySem.W.Frag} {mg : Str → Option Value} (T : Tx w K mg) : Sp := fun vs H Q E => ∃ (b S P : Addr) (ow : List Addr) (gs : List G) (past : List (List G)) (W : Addr) (ws : List (List Nat)), vs = [.ref b, .ref W] ∧ Bch T.C_Beach H b S P ow gs past ∧ SqL K H W (tvs ws) ∧ OkW ws ∧ (ws.length ≠ 1 ∨ numsOf ws = none → ∀ H', AH H H' → E (T.err .badrow) none H') ∧ ∀ p, numsOf ws = some [p] → (∀ e, C2 gs past p = some e → ∀ H', AH H H' → E (T.err e) none H') ∧ (∀ g, AW gs p = some g → C2 gs past p = none → ∀ H' S' ow', Kp b P H H' → Bch T.C_Beach H' b S' P ow' (Bd gs p []) (past ++ [gs]) → (∀ a ∈ ow', a ∈ ow ∨ H a = none) → Q (.str (tx (Ex p g.f g.h))) H')
theorem KM (T : Tx w K mg) : Ag P w K mg base (CXE P w) 5 T.f_take_row T.fd_take_row ["beach", "words"] (CY T) := by
 refine T.d_take_row.F.okX GC (fun _ _ _ _ h => by walk_at "LN") ?_
 ·walk_at "I2"
  obtain ⟨b, S, P, ow, gs, past, W, ws, rfl, hb, hW, ok, kE, k⟩ := h
  refine ⟨_, (AD (pst 2 GC (pcl T.d_read_so_many (BB T) hr BG (AA (pv 1) (AA AB AC))))
   (AE (AM (pcl T.d_gate_text (B5 T) hr Al (AA (BQ (pv 0) T.cl_Beach T.d_Beach_take.mt (Hw T) (hr.mono (by decide)) T.d_Beach_take.b .nil BG (AA (pxi AK (pv 2) AB) AC)) AC))))), ?_⟩
  walk_at "Q"
  walk_at "RD"
  refine ⟨W, ws, 1, rfl, hW, ok, fun h H1 s1 => kE (h.imp (fun h z => h (by lia)) id) H1 s1, fun ns h3 hn D H1 n1 s1 e1 => ?_⟩
  walk_at "NX"
  obtain ⟨hl, h9⟩ := Ir hn
  obtain ⟨p, rfl⟩ := Mn (hl.trans (by lia))
  obtain ⟨k1, k2⟩ := k p hn
  clear k kE
  have hb1 := hb.same s1
  obtain ⟨dx, eb⟩ := hb1.at_
  walk_at "RD"
  refine ⟨dx, _, eb, rfl, _, SqL.of e1, _, rfl, ?_⟩
  refine ⟨b, S, P, ow, gs, past, p, rfl, hb1, fun e he H2 s2 => k1 e he _ (s1.trans s2), fun g hg hE H2 S' ow' D2 kp b2 o2 e2 => ?_⟩
  obtain ⟨hm, rfl⟩ := Aw hg
  have o := hb.std.ok g hm
  exact ⟨D2, g.p, g.f, g.h, rfl, e2, Ed ⟨o.p0, o.p1⟩, Ed ⟨o.f0, Int.le_trans o.fh o.h1⟩, Ed ⟨Int.le_trans o.f0 o.fh, o.h1⟩, fun H3 s3 => k2 g hg hE H3 S' ow' ((Kp.of s1).trans (kp.trans (Kp.of s3))) (b2.same s3) fun a ha => (o2 a ha).imp id fun z => s1.free z⟩
theorem F1 : AN ["beach", "words", "numbers"] ["beach", "words"] (AF Ef) := by walk_at "SC"
noncomputable def Ce {w : World} {K : PySem.W.Frag} {mg : Str → Option Value} (T : Tx w K mg) : Sp := fun vs H Q E => ∃ (b S P : Addr) (ow : List Addr) (gs : List G) (past : List (List G)) (W : Addr) (ws : List (List Nat)), vs = [.ref b, .ref W] ∧ Bch T.C_Beach H b S P ow gs past ∧ SqL K H W (tvs ws) ∧ OkW ws ∧ (ws.length ≠ 3 ∨ numsOf ws = none → ∀ H', AH H H' → E (T.err .badrow) none H') ∧ ∀ p x y, numsOf ws = some [p, x, y] → (∀ e, Ba gs past p x y = some e → ∀ H', AH H H' → E (T.err e) none H') ∧ (∀ g, AW gs p = some g → Ba gs past p x y = none → ∀ H' S' ow', Kp b P H H' → Bch T.C_Beach H' b S' P ow' (Bd gs p [⟨p, g.f + x, g.h + y⟩]) (past ++ [gs]) → (∀ a ∈ ow', a ∈ ow ∨ H a = none) → Q (.str (tx (Ex p (g.f + x) (g.h + y)))) H')
theorem Kb (T : Tx w K mg) : Ag P w K mg base (CXE P w) 5 T.f_lift_row T.fd_lift_row ["beach", "words"] (Ce T) := by
 refine T.d_lift_row.F.okX F1 (fun _ _ _ _ h => by walk_at "LN") ?_
 ·walk_at "I2"
  obtain ⟨b, S, P, ow, gs, past, W, ws, rfl, hb, hW, ok, kE, k⟩ := h
  refine ⟨_, (AD (pst 2 F1 (pcl T.d_read_so_many (BB T) hr BG (AA (pv 1) (AA AB AC))))
   (AE (AM (pcl T.d_gate_text (B5 T) hr Al (AA (BQ (pv 0) T.cl_Beach T.d_Beach_lift.mt (EM T) (hr.mono (by decide)) T.d_Beach_lift.b .nil BG (AA (pxi AK (pv 2) AB) (AA (pxi AK (pv 2) AB) (AA (pxi AK (pv 2) AB) AC)))) AC))))), ?_⟩
  walk_at "Q"
  walk_at "RD"
  refine ⟨W, ws, 3, rfl, hW, ok, fun h H1 s1 => kE (h.imp (fun h z => h (by lia)) id) H1 s1, fun ns h3 hn D H1 n1 s1 e1 => ?_⟩
  walk_at "NX"
  obtain ⟨hl, h9⟩ := Ir hn
  obtain ⟨p, x, y, rfl⟩ := NN (hl.trans (by lia))
  obtain ⟨k1, k2⟩ := k p x y hn
  clear k kE
  have hb1 := hb.same s1
  obtain ⟨dx, eb⟩ := hb1.at_
  walk_at "RD"
  have B1 : ∀ {n : Int}, n.natAbs ≤ 2000000000 → n.natAbs ≤ 10 ^ 40 := fun h => Nat.le_trans h (by decide +kernel)
  have b1 := h9 p (by simp)
  have b2 := h9 x (by simp)
  have b3 := h9 y (by simp)
  refine ⟨dx, _, eb, rfl, _, SqL.of e1, _, rfl, _, SqL.of e1, _, rfl, _, SqL.of e1, _, rfl, ?_⟩
  refine ⟨b, S, P, ow, gs, past, p, x, y, rfl, hb1, fun e he H2 s2 => k1 e he _ (s1.trans s2), fun g hg hE H2 S' ow' D2 kp b2 o2 e2 => ?_⟩
  have o := hb.std.ok g (Aw hg).1
  have o1 := o.f0
  have o2' := o.fh
  have o3 := o.h1
  exact ⟨D2, p, g.f + x, g.h + y, rfl, e2, B1 (by lia), B1 (by lia), B1 (by lia), fun H3 s3 => k2 g hg hE H3 S' ow' ((Kp.of s1).trans (kp.trans (Kp.of s3))) (b2.same s3) fun a ha => (o2 a ha).imp id fun z => s1.free z⟩
theorem Fz : AN ["beach", "words", "numbers"] ["beach", "words"] (AF Er) := by walk_at "SC"
noncomputable def Cd {w : World} {K : PySem.W.Frag} {mg : Str → Option Value} (T : Tx w K mg) : Sp := fun vs H Q E => ∃ (b S P : Addr) (ow : List Addr) (gs : List G) (past : List (List G)) (W : Addr) (ws : List (List Nat)), vs = [.ref b, .ref W] ∧ Bch T.C_Beach H b S P ow gs past ∧ SqL K H W (tvs ws) ∧ OkW ws ∧ (ws.length ≠ 3 ∨ numsOf ws = none → ∀ H', AH H H' → E (T.err .badrow) none H') ∧ ∀ p x y, numsOf ws = some [p, x, y] → (∀ e, Ba gs past p (-x) (-y) = some e → ∀ H', AH H H' → E (T.err e) none H') ∧ (∀ g, AW gs p = some g → Ba gs past p (-x) (-y) = none → ∀ H' S' ow', Kp b P H H' → Bch T.C_Beach H' b S' P ow' (Bd gs p [⟨p, g.f + (-x), g.h + (-y)⟩]) (past ++ [gs]) → (∀ a ∈ ow', a ∈ ow ∨ H a = none) → Q (.str (tx (Ex p (g.f + (-x)) (g.h + (-y))))) H')
theorem Kj (T : Tx w K mg) : Ag P w K mg base (CXE P w) 5 T.f_sink_row T.fd_sink_row ["beach", "words"] (Cd T) := by
 refine T.d_sink_row.F.okX Fz (fun _ _ _ _ h => by walk_at "LN") ?_
 ·walk_at "I2"
  obtain ⟨b, S, P, ow, gs, past, W, ws, rfl, hb, hW, ok, kE, k⟩ := h
  refine ⟨_, (AD (pst 2 Fz (pcl T.d_read_so_many (BB T) hr BG (AA (pv 1) (AA AB AC))))
   (AE (AM (pcl T.d_gate_text (B5 T) hr Al (AA (BQ (pv 0) T.cl_Beach T.d_Beach_sink.mt (Hf T) (hr.mono (by decide)) T.d_Beach_sink.b .nil BG (AA (pxi AK (pv 2) AB) (AA (pxi AK (pv 2) AB) (AA (pxi AK (pv 2) AB) AC)))) AC))))), ?_⟩
  walk_at "Q"
  walk_at "RD"
  refine ⟨W, ws, 3, rfl, hW, ok, fun h H1 s1 => kE (h.imp (fun h z => h (by lia)) id) H1 s1, fun ns h3 hn D H1 n1 s1 e1 => ?_⟩
  walk_at "NX"
  obtain ⟨hl, h9⟩ := Ir hn
  obtain ⟨p, x, y, rfl⟩ := NN (hl.trans (by lia))
  obtain ⟨k1, k2⟩ := k p x y hn
  clear k kE
  have hb1 := hb.same s1
  obtain ⟨dx, eb⟩ := hb1.at_
  walk_at "RD"
  have B1 : ∀ {n : Int}, n.natAbs ≤ 2000000000 → n.natAbs ≤ 10 ^ 40 := fun h => Nat.le_trans h (by decide +kernel)
  have b1 := h9 p (by simp)
  have b2 := h9 x (by simp)
  have b3 := h9 y (by simp)
  refine ⟨dx, _, eb, rfl, _, SqL.of e1, _, rfl, _, SqL.of e1, _, rfl, _, SqL.of e1, _, rfl, ?_⟩
  refine ⟨b, S, P, ow, gs, past, p, x, y, rfl, hb1, fun e he H2 s2 => k1 e he _ (s1.trans s2), fun g hg hE H2 S' ow' D2 kp b2 o2 e2 => ?_⟩
  have o := hb.std.ok g (Aw hg).1
  have o1 := o.f0
  have o2' := o.fh
  have o3 := o.h1
  exact ⟨D2, p, g.f + (-x), g.h + (-y), rfl, e2, B1 (by lia), B1 (by lia), B1 (by lia), fun H3 s3 => k2 g hg hE H3 S' ow' ((Kp.of s1).trans (kp.trans (Kp.of s3))) (b2.same s3) fun a ha => (o2 a ha).imp id fun z => s1.free z⟩
theorem F9 : AN ["beach", "words", "numbers"] ["beach", "words"] (AF Em) := by walk_at "SC"
theorem kpP {C b S P : Addr} {ow : List Addr} {gs : List G} {past : List (List G)} {H H' : Hp} (_ : Bch C H b S P ow gs past) (k : Kp b b H H') : Kp b P H H' := fun a u h1 _ e => k a u h1 h1 e
theorem Ot {α : Type} {l : List α} (h : l.length ≤ 300) : (l.length : Int).natAbs ≤ 10 ^ 40 := Nat.le_trans (show (l.length : Int).natAbs ≤ 300 by lia) (by decide +kernel)
noncomputable def Ca {w : World} {K : PySem.W.Frag} {mg : Str → Option Value} (T : Tx w K mg) : Sp := fun vs H Q E => ∃ (b S P : Addr) (ow : List Addr) (gs : List G) (past : List (List G)) (W : Addr) (ws : List (List Nat)), vs = [.ref b, .ref W] ∧ Bch T.C_Beach H b S P ow gs past ∧ SqL K H W (tvs ws) ∧ OkW ws ∧ (2 ≤ ws.length ∨ numsOf ws = none → ∀ H', AH H H' → E (T.err .badrow) none H') ∧ ∀ n, (ws = [] ∧ n = 1 ∨ numsOf ws = some [n]) → (∀ e, Db past n = some e → ∀ H', AH H H' → E (T.err e) none H') ∧ (Db past n = none → ∀ H' S' P' ow', Kp b P H H' → Bch T.C_Beach H' b S' P' ow' (past.getD (past.length - n.toNat) []) (past.take (past.length - n.toNat)) → (∀ a ∈ ow', a ∈ ow ∨ H a = none) → Q (.str (tx (Cf ((past.take (past.length - n.toNat)).length : Int)))) H')
theorem KL (T : Tx w K mg) : Ag P w K mg base (CXE P w) 5 T.f_back_row T.fd_back_row ["beach", "words"] (Ca T) := by
 refine T.d_back_row.F.okX F9 (fun _ _ _ _ h => by walk_at "LN") ?_
 ·walk_at "I2"
  obtain ⟨b, S, P, ow, gs, past, W, ws, rfl, hb, hW, ok, kE, k⟩ := h
  refine ⟨_, (AD (Ai (ptc BR (AQ AR (by rfl) T.z_len Ar (AA (pv 1) AC)) AB) (AE (AM (pcl T.d_deeds_text (Cs T) hr Al (AA (Gv (pv 0) T.cl_Beach T.d_Beach_back.mt (EJ T) (hr.mono (by decide)) T.d_Beach_back.bd.choose_spec.2 T.d_Beach_back.bd.choose_spec.1 BG) AC))))
    AT)
   (AD (pst 2 F9 (pcl T.d_read_so_many (BB T) hr BG (AA (pv 1) (AA AB AC))))
   (AE (AM (pcl T.d_deeds_text (Cs T) hr Al (AA (BQ (pv 0) T.cl_Beach T.d_Beach_back.mt (EJ T) (hr.mono (by decide)) T.d_Beach_back.b .nil BG (AA (pxi AK (pv 2) AB) AC)) AC)))))), ?_⟩
  obtain ⟨dx, eb⟩ := hb.at_
  walk_at "Q"
  walk_at "RD"
  refine ⟨_, .inl hW, ?_⟩
  rw [List.length_map]
  by_cases h0 : ws = []
  ·rw [if_pos (decide_eq_true (by rw [h0]; rfl))]
   obtain ⟨k1, k2⟩ := k 1 (.inl ⟨h0, rfl⟩)
   refine ⟨dx, _, eb, rfl, b, S, P, ow, gs, past, 1, rfl, hb, fun e he => k1 e he _ (AH.refl _), fun hE H' S' P' ow' kp b2 o2 => ⟨_, rfl, ?_, k2 hE H' S' P' ow' (kpP hb kp) b2 o2⟩⟩
   exact Ot b2.len
  ·rw [if_neg (fun z => h0 (List.length_eq_zero_iff.mp (by have := of_decide_eq_true z; lia)))]
   walk_at "NX"
   walk_at "RD"
   refine ⟨W, ws, 1, rfl, hW, ok, fun h H1 s1 => kE (h.imp (fun h => ?_) id) H1 s1, fun ns h1 hn D H1 n1 s1 e1 => ?_⟩
   ·have := List.length_pos_iff.mpr h0
    lia
   obtain ⟨hl, h9⟩ := Ir hn
   obtain ⟨n, rfl⟩ := Mn (hl.trans (by lia))
   obtain ⟨k1, k2⟩ := k n (.inr hn)
   refine ⟨dx, _, s1.get eb, rfl, D, rfl, _, SqL.of e1, _, rfl, b, S, P, ow, gs, past, n, rfl, hb.same s1, fun e he => k1 e he _ s1, fun hE H' S' P' ow' kp b2 o2 => ⟨_, rfl, ?_, k2 hE H' S' P' ow' ((Kp.of s1).trans (kpP (hb.same s1) kp)) b2 fun a ha => (o2 a ha).imp id fun z => s1.free z⟩⟩
   exact Ot b2.len
theorem Jp : AN ["beach", "words"] ["beach", "words"] (AF Dp) := by walk_at "SC"
noncomputable def CK {w : World} {K : PySem.W.Frag} {mg : Str → Option Value} (T : Tx w K mg) : Sp := fun vs H Q E => ∃ (b S P : Addr) (ow : List Addr) (gs : List G) (past : List (List G)) (W : Addr) (ws : List (List Nat)), vs = [.ref b, .ref W] ∧ Bch T.C_Beach H b S P ow gs past ∧ SqL K H W (tvs ws) ∧ OkW ws ∧ (ws ≠ [] → ∀ H', AH H H' → E (T.err .badrow) none H') ∧ (ws = [] → ∀ H', AH H H' → Q (.str (tx (Cf past.length))) H')
theorem JN (T : Tx w K mg) : Ag P w K mg base (CXE P w) 2 T.f_deeds_row T.fd_deeds_row ["beach", "words"] (CK T) := by
 refine T.d_deeds_row.F.okX Jp (fun _ _ _ _ h => by walk_at "LN") ?_
 ·walk_at "I2"
  obtain ⟨b, S, P, ow, gs, past, W, ws, rfl, hb, hW, ok, kE, k⟩ := h
  refine ⟨_, (AD (Am (pcl T.d_check_many (Ck T) hr BG (AA (pv 1) (AA AB AC))))
   (AE (AM (pcl T.d_deeds_text (Cs T) hr Al (AA (Gv (pv 0) T.cl_Beach T.d_Beach_deeds.mt (HI T) (hr.mono (by decide)) T.d_Beach_deeds.b .nil Al) AC))))), ?_⟩
  obtain ⟨dx, eb⟩ := hb.at_
  walk_at "Q"
  walk_at "RD"
  refine ⟨W, ws, 0, rfl, hW, ok, fun h => kE (fun z => h (by rw [z]; rfl)) _ (AH.refl _), fun h => ?_⟩
  have h0 : ws = [] := List.length_eq_zero_iff.mp (by lia)
  have k := k h0
  walk_at "NX"
  walk_at "RD"
  exact ⟨dx, _, eb, rfl, b, S, P, ow, gs, past, rfl, hb, _, rfl, Ot hb.len, k _ (AH.refl _)⟩
theorem JZ : AN ["beach", "words"] ["beach", "words"] (AF Dx) := by walk_at "SC"
theorem K1 {c : Nat} : ∀ {l : List Nat}, (∀ x ∈ l, x ≤ c) → l.sum ≤ c * l.length
 | [], _ => by simp
 | a :: r, h => by
  rw [List.sum_cons, List.length_cons, Nat.mul_succ]
  have := h a List.mem_cons_self
  have := K1 fun x hx => h x (List.mem_cons_of_mem _ hx)
  lia
theorem Fv {α : Type} {f : α → List Nat} : ∀ {ys : List V} {gs : List α}, Paired (fun v g => v = V.str (tx (f g))) ys gs → ys = tvs (gs.map f)
 | _, _, .nil => rfl
 | _, _, .cons h r => by rw [h, Fv r]; rfl
theorem PB : Str.ofString ":" = tx [58] := by rfl
theorem JH : Str.ofString "gates" = tx [103, 97, 116, 101, 115] := by rfl
noncomputable def A9 (g : G) : List Nat := BU [58] [dec g.p, dec g.f, dec g.h]
noncomputable def HL (gs : List G) : List Nat := BU [32] ([103, 97, 116, 101, 115] :: gs.map A9)
noncomputable def CN {w : World} {K : PySem.W.Frag} {mg : Str → Option Value} (T : Tx w K mg) : Sp := fun vs H Q E => ∃ (b S P : Addr) (ow : List Addr) (gs : List G) (past : List (List G)) (W : Addr) (ws : List (List Nat)), vs = [.ref b, .ref W] ∧ Bch T.C_Beach H b S P ow gs past ∧ SqL K H W (tvs ws) ∧ OkW ws ∧ (ws ≠ [] → ∀ H', AH H H' → E (T.err .badrow) none H') ∧ (ws = [] → ∀ H', AH H H' → Q (.str (tx (HL gs))) H')
theorem Jd (T : Tx w K mg) : Ag P w K mg base (CXE P w) 2 T.f_gates_row T.fd_gates_row ["beach", "words"] (CN T) := by
 refine T.d_gates_row.F.okX JZ (fun _ _ _ _ h => by walk_at "LN") ?_
 ·walk_at "I2"
  obtain ⟨b, S, P, ow, gs, past, W, ws, rfl, hb, hW, ok, kE, k⟩ := h
  refine ⟨_, (AD (Am (pcl T.d_check_many (Ck T) hr BG (AA (pv 1) (AA AB AC))))
   (AE (AM (FB PySem.F.plainAttrs_str PySem.F.slot_str_join PySem.F.type_str_join GU AJ (AA (AL E5 (Aa (AA AJ AC)) (Cc rfl (⟨rfl, by decide +kernel, by decide +kernel, by decide +kernel, rfl, by decide +kernel, by with_unfolding_all rfl, by rfl, by rfl, by rfl⟩ : Aq _ _ "gate" [] []) (CL (Gv (pv 0) T.cl_Beach T.d_Beach_gates.mt (G8 T) (hr.mono (by decide)) T.d_Beach_gates.b .nil Al)) (fun _ _ _ _  => (QE (K := K) rfl PySem.F.plainAttrs_str PySem.F.slot_str_join PySem.F.type_str_join (NQ (K := K) rfl) AJ (AA (pcl T.d_number_words (DZ T) hr Al (AA (pv 0) AC)) AC))) (fun _ _ _ _ => B8))) AC))))), ?_⟩
  obtain ⟨dx, eb⟩ := hb.at_
  walk_at "Q"
  delta tBM Go
  refine ⟨W, ws, 0, rfl, hW, ok, fun h => kE (fun z => h (by rw [z]; rfl)) _ (AH.refl _), fun h => ?_⟩
  have h0 : ws = [] := List.length_eq_zero_iff.mp (by lia)
  have k := k h0
  walk_at "NX"
  delta tBM Go Dh
  refine ⟨tyS, by decide, fun D1 H1 n1 s1 e1 => ⟨dx, _, s1.get eb, rfl, b, S, P, ow, gs, past, rfl, hb.same s1, fun H2 D2 as n2 s2 e2 ga => ⟨_, rfl, ⟨_, SqL.of e2⟩, fun D nD => ?_⟩⟩⟩
  have l40 := hb.std.len
  have okg := hb.std.ok
  have lw : ∀ g ∈ gs, (A9 g).length ≤ 128 := fun g hg => by
   have o := okg g hg
   have := BS (Ed ⟨o.p0, o.p1⟩)
   have := BS (n := g.f) (Ed ⟨o.f0, Int.le_trans o.fh o.h1⟩)
   have := BS (n := g.h) (Ed ⟨Int.le_trans o.f0 o.fh, o.h1⟩)
   show (dec g.p ++ ([58] ++ (dec g.f ++ ([58] ++ dec g.h)))).length ≤ _
   simp only [List.length_append, List.length_cons, List.length_nil]
   lia
  refine IN (F := fun _ v g => v = V.str (tx (A9 g))) (fun _ _ _ _ _ h => h) (fun _ _ _ _ _ _ h => h) (SqL.of e2) ga nD (by lia) ?_ ?_
  ·intro v g H3 R hg s3 ev hR
   have o := okg g hg
   have b1 := Ed ⟨o.p0, o.p1⟩
   have b2 := Ed (n := g.f) ⟨o.f0, Int.le_trans o.fh o.h1⟩
   have b3 := Ed (n := g.h) ⟨Int.le_trans o.f0 o.fh, o.h1⟩
   delta tBM Go
   refine ⟨tyS, v, [g.p, g.f, g.h], rfl, .inr (SqT.of ev), fun n hn => ?_, by show 3 ≤ 100000; decide, fun D3 H4 n4 s4 e4 => ⟨[58], PB, _, rfl, [dec g.p, dec g.f, dec g.h], SqL.of e4, ?_, hR _ _ s4 rfl⟩⟩
   ·simp only [List.mem_cons, List.not_mem_nil, or_false] at hn
    rcases hn with rfl | rfl | rfl <;> assumption
   ·have := BS b1
    have := BS b2
    have := BS b3
    simp only [List.map_cons, List.map_nil, List.sum_cons, List.sum_nil, List.length_cons, List.length_nil]
    lia
  ·intro H3 ys s3 e3 pr
   have ey : ys = tvs (gs.map A9) := Fv pr
   subst ey
   refine ⟨_, s3.get (s2.get e1), _, e3, by rw [List.length_map, List.length_map, PySem.sizeLine_eq]; show 1 + _ ≤ _; lia, fun D4 H4 n4 s4 e4 => ⟨[32], LV, [103, 97, 116, 101, 115] :: gs.map A9, SqL.of (by rw [JH] at e4; exact e4), ?_, k _ (s1.trans (s2.trans (s3.trans s4)))⟩⟩
   have h1 : ((gs.map A9).map List.length).sum ≤ 128 * ((gs.map A9).map List.length).length := K1 fun x hx => by
    obtain ⟨y, hy, rfl⟩ := List.mem_map.mp hx
    obtain ⟨g, hg, rfl⟩ := List.mem_map.mp hy
    exact lw g hg
   rw [List.length_map, List.length_map] at h1
   show 5 + ((gs.map A9).map List.length).sum + ((gs.map A9).length + 1) * 1 ≤ _
   rw [List.length_map]
   lia
theorem Dz : AN ["beach", "row", "words", "asked"] ["beach", "row"] (AF Ec) := by walk_at "SC"
noncomputable abbrev OkL (l : List Nat) : Prop := (∀ c ∈ l, c < 128) ∧ l.length ≤ 100000
noncomputable def tx2 (s : String) : List Nat := (Str.ofString s).cps.toList
noncomputable def GD {w : World} {K : PySem.W.Frag} {mg : Str → Option Value} (T : Tx w K mg) : Sp := fun vs H Q E => ∃ (b : Addr) (l w : List Nat) (ws : List (List Nat)), vs = [.ref b, .str (tx l)] ∧ OkL l ∧ Bw 32 l = w :: ws ∧ ((w = tx2 "put" ∧ ∀ W H1, H W = none → AH H H1 → H1 W = some (.lst (tvs ws)) → DR T [.ref b, .ref W] H1 Q E) ∨ (w = tx2 "take" ∧ ∀ W H1, H W = none → AH H H1 → H1 W = some (.lst (tvs ws)) → CY T [.ref b, .ref W] H1 Q E) ∨ (w = tx2 "lift" ∧ ∀ W H1, H W = none → AH H H1 → H1 W = some (.lst (tvs ws)) → Ce T [.ref b, .ref W] H1 Q E) ∨ (w = tx2 "sink" ∧ ∀ W H1, H W = none → AH H H1 → H1 W = some (.lst (tvs ws)) → Cd T [.ref b, .ref W] H1 Q E) ∨ (w = tx2 "back" ∧ ∀ W H1, H W = none → AH H H1 → H1 W = some (.lst (tvs ws)) → Ca T [.ref b, .ref W] H1 Q E) ∨ (w = tx2 "deeds" ∧ ∀ W H1, H W = none → AH H H1 → H1 W = some (.lst (tvs ws)) → CK T [.ref b, .ref W] H1 Q E) ∨ (w = tx2 "gates" ∧ ∀ W H1, H W = none → AH H H1 → H1 W = some (.lst (tvs ws)) → CN T [.ref b, .ref W] H1 Q E) ∨ (Dq.lookup (tx w) = none ∧ ∀ H1, AH H H1 → E (T.err .badrow) none H1))
theorem J5 (T : Tx w K mg) : Ag P w K mg base (CXE P w) 6 T.f_row_told T.fd_row_told ["beach", "row"] (GD T) := by
 refine T.d_row_told.F.okX Dz (fun _ _ _ _ h => by walk_at "LN") ?_
 ·walk_at "I2"
  obtain ⟨b, l, w, ws, rfl, ok, hc, k⟩ := h
  refine ⟨_, (AD (pst 2 Dz (FB PySem.F.plainAttrs_str PySem.F.slot_str_split PySem.F.type_str_split Mq (pv 1) (AA AJ AC)))
   (AD (pst 3 Dz (O3 T.rows (by rfl) T.m_ROWS (pxi AK (pv 2) AB) ⟨rfl, rfl, rfl, rfl⟩))
   (AD (Ai (ptc Sn (pv 3) QA) (AE (BK Dt rfl T.e_BadRow (by rfl) T.m_BadRow (AA AJ AC)))
    AT)
   (AE (AM (OA (k := 5) (.cons T.d_put_row (LP T) (.cons T.d_take_row (KM T) (.cons T.d_lift_row (Kb T) (.cons T.d_sink_row (Kj T) (.cons T.d_back_row (KL T) (.cons T.d_deeds_row (JN T) (.cons T.d_gates_row (Jd T) .nil))))))) (hr.mono (by decide)) BG (pv 3) (AA (pv 0) (AA (Du KP (pv 2) (ED AB) GZ) AC)))))))), ?_⟩
  walk_at "Q"
  delta tBM Ms
  refine ⟨tyS, l, rfl, 32, LV, by have := ok.2; rw [PySem.sizeLine_eq]; lia, fun L H1 n1 s1 e1 => ?_⟩
  rw [hc] at e1
  walk_at "NX"
  have nd : ∀ {c : Addr}, H1 c = none → H c = none := fun n => s1.free n
  walk_at "Q"
  delta PH
  refine ⟨_, SqL.of e1, _, Cb (j := 0) rfl, tx w, rfl, ?_⟩
  have go : ∀ (f : Addr) (sp : Sp), (f, sp) ∈ [(T.f_put_row, DR T), (T.f_take_row, CY T), (T.f_lift_row, Ce T), (T.f_sink_row, Cd T), (T.f_back_row, Ca T), (T.f_deeds_row, CK T), (T.f_gates_row, CN T)] → (∀ W H1, H W = none → AH H H1 → H1 W = some (.lst (tvs ws)) → sp [.ref b, .ref W] H1 Q E) → M [some (V.ref b), some (V.str (tx l)), some (V.ref L), some (V.ref f)] H1 := fun f sp hm kk => by
   refine hM _ _ ?_
   clear hM M
   walk_at "Q"
   delta LG
   rw [if_neg (fun z => by cases (of_decide_eq_true z))]
   walk_at "NX"
   delta LG
   exact ⟨_, hm, rfl, _, SqL.of e1, fun W H2 n2 s2 e2 => kk W H2 (s1.free n2) (s1.trans s2) (by rw [e2]; exact congrArg (fun z => some (HO.lst z)) (MB (i := 1)))⟩
  rcases k with ⟨rfl, k⟩ | ⟨rfl, k⟩ | ⟨rfl, k⟩ | ⟨rfl, k⟩ | ⟨rfl, k⟩ | ⟨rfl, k⟩ | ⟨rfl, k⟩ | ⟨hn, k⟩
  ·rw [show Dq.lookup (tx (tx2 "put")) = some "put_row" by decide +kernel]
   exact ⟨_, T.d_put_row.m, go _ (DR T) (by simp) k⟩
  ·rw [show Dq.lookup (tx (tx2 "take")) = some "take_row" by decide +kernel]
   exact ⟨_, T.d_take_row.m, go _ (CY T) (by simp) k⟩
  ·rw [show Dq.lookup (tx (tx2 "lift")) = some "lift_row" by decide +kernel]
   exact ⟨_, T.d_lift_row.m, go _ (Ce T) (by simp) k⟩
  ·rw [show Dq.lookup (tx (tx2 "sink")) = some "sink_row" by decide +kernel]
   exact ⟨_, T.d_sink_row.m, go _ (Cd T) (by simp) k⟩
  ·rw [show Dq.lookup (tx (tx2 "back")) = some "back_row" by decide +kernel]
   exact ⟨_, T.d_back_row.m, go _ (Ca T) (by simp) k⟩
  ·rw [show Dq.lookup (tx (tx2 "deeds")) = some "deeds_row" by decide +kernel]
   exact ⟨_, T.d_deeds_row.m, go _ (CK T) (by simp) k⟩
  ·rw [show Dq.lookup (tx (tx2 "gates")) = some "gates_row" by decide +kernel]
   exact ⟨_, T.d_gates_row.m, go _ (CN T) (by simp) k⟩
  ·rw [hn]
   refine hM _ _ ?_
   clear go hM M
   walk_at "Q"
   walk_at "RD"
   exact ⟨by decide, k _ s1⟩
theorem IE : AN ["beach", "row"] ["beach", "row"] (AF DS) := by walk_at "SC"
noncomputable def LH : Err → Str
 | .badrow => "refused: bad row"
 | .nogate => "refused: no gate"
 | .taken => "refused: taken"
 | .upside => "refused: upside down"
 | .bounds => "refused: out of bounds"
 | .full => "refused: beach full"
 | .deeds => "refused: deeds full"
 | .nothing => "refused: nothing back"
 | .badlist => "refused: bad list"
 | .few => "refused: too few"
 | .size => "refused: wrong size"
 | .badthrow => "refused: bad throw"
noncomputable def Ct {w : World} {K : PySem.W.Frag} {mg : Str → Option Value} (T : Tx w K mg) : Sp := fun vs H Q _ => ∃ (b : Addr) (x : Str), vs = [.ref b, .str x] ∧ ∀ E : XK, (∀ e H', Q (.str (LH e)) H' → E (T.err e) none H') → GD T vs H Q E
theorem Hq (T : Tx w K mg) : Ag P w K mg base CX0 7 T.f_row_answer T.fd_row_answer ["beach", "row"] (Ct T) := by
 refine T.d_row_answer.F.ok IE (fun _ _ _ _ h => by walk_at "LN") ?_
 ·walk_at "I2"
  obtain ⟨b, x, rfl, k⟩ := h
  refine ⟨_, (AE (Q6 rfl rfl (fun _ _ _ hp => (AE (AM (KN (J5 T) (hr.mono (by decide)) (by rfl) T.d_row_told.m T.d_row_told.F.kp T.d_row_told.b .nil hp (AA (pv 0) (AA (pv 1) AC))))))
    (PHs.cons (by rfl) T.m_BadRow (by decide) (fun _ _ => (AE (AM AJ))) (PHs.cons (by rfl) T.m_NoGate (by decide) (fun _ _ => (AE (AM AJ))) (PHs.cons (by rfl) T.m_Taken (by decide) (fun _ _ => (AE (AM AJ))) (PHs.cons (by rfl) T.m_UpsideDown (by decide) (fun _ _ => (AE (AM AJ))) (PHs.cons (by rfl) T.m_OutOfBounds (by decide) (fun _ _ => (AE (AM AJ))) (PHs.cons (by rfl) T.m_BeachFull (by decide) (fun _ _ => (AE (AM AJ))) (PHs.cons (by rfl) T.m_DeedsFull (by decide) (fun _ _ => (AE (AM AJ))) (PHs.cons (by rfl) T.m_NothingBack (by decide) (fun _ _ => (AE (AM AJ))) (PHs.cons (by rfl) T.m_BadList (by decide) (fun _ _ => (AE (AM AJ))) (PHs.cons (by rfl) T.m_TooFew (by decide) (fun _ _ => (AE (AM AJ))) (PHs.cons (by rfl) T.m_WrongSize (by decide) (fun _ _ => (AE (AM AJ))) (PHs.cons (by rfl) T.m_BadThrow (by decide) (fun _ _ => (AE (AM AJ))) PHs.nil)))))))))))))), ?_⟩
  delta tTry K9
  refine k _ fun e H' hq => ?_
  cases e
  case badrow => exact BC T.xs 0 rfl rfl rfl hq
  case nogate => exact BC T.xs 1 rfl rfl rfl hq
  case taken => exact BC T.xs 2 rfl rfl rfl hq
  case upside => exact BC T.xs 3 rfl rfl rfl hq
  case bounds => exact BC T.xs 4 rfl rfl rfl hq
  case full => exact BC T.xs 5 rfl rfl rfl hq
  case deeds => exact BC T.xs 6 rfl rfl rfl hq
  case nothing => exact BC T.xs 7 rfl rfl rfl hq
  case badlist => exact BC T.xs 8 rfl rfl rfl hq
  case few => exact BC T.xs 9 rfl rfl rfl hq
  case size => exact BC T.xs 10 rfl rfl rfl hq
  case badthrow => exact BC T.xs 11 rfl rfl rfl hq
theorem Jj : AN ["self"] ["self"] (AF Dd) := by walk_at "SC"
noncomputable def FQ {w : World} {K : PySem.W.Frag} {mg : Str → Option Value} (T : Tx w K mg) : Sp := fun vs H Q _ => ∃ (d dx : Addr), vs = [.ref d] ∧ H d = some (.ins T.C_Desk dx []) ∧ ∀ H' b S P, H b = none → H S = none → H P = none → (∀ a u, a ≠ d → H a = some u → H' a = some u) → H' d = some (.ins T.C_Desk dx [("beach", .ref b)]) → Bch T.C_Beach H' b S P [S, P] [] [] → Q .non H'
theorem Oi {w : World} {K : PySem.W.Frag} {mg : Str → Option Value} {T : Tx w K mg} {H : Hp} {Q : Addr → Hp → Prop} {E : XK} (k : ∀ d dx b S P H', H d = none → H b = none → H S = none → H P = none → AH H H' → H' d = some (.ins T.C_Desk dx [("beach", .ref b)]) → Bch T.C_Beach H' b S P [S, P] [] [] → Q d H') :
  ∀ x dx, H x = none → H dx = none → dx ≠ x → FQ T [V.ref x] (upd (upd H dx (.own x)) x (.ins T.C_Desk dx [])) (fun v H2 => v = V.non ∧ Q x H2) E := fun x dx nx nd hd => by
 have fr : ∀ {c : Addr}, upd (upd H dx (.own x)) x (.ins T.C_Desk dx []) c = none → H c = none := fun {c} n => by
  have h1 : c ≠ x := fun z => by rw [z, AG] at n; cases n
  have h2 : c ≠ dx := fun z => by rw [AI h1, z, AG] at n; cases n
  rwa [AI h1, AI h2] at n
 refine ⟨x, dx, rfl, AG, fun H' b S P nb nS nP kp eb hb => ⟨rfl, k x dx b S P H' nx (fr nb) (fr nS) (fr nP) (fun a u e => kp a u (AO e nx) ?_) eb hb⟩⟩
 rw [AI (AO e nx), AI (AO e nd)]
 exact e
theorem Jg (T : Tx w K mg) : Ag P w K mg base CX0 3 T.f_Desk_init T.fd_Desk_init ["self"] (FQ T) := by
 refine T.d_Desk_init.F.ok Jj (fun _ _ _ _ h => by walk_at "LN") ?_
 ·walk_at "I2"
  obtain ⟨d, dx, rfl, ed, k⟩ := h
  refine ⟨_, (AE (Fw (pv 0) (KA T.mk_Beach (Hy T) (hr.mono (by decide)) (by rfl) T.m_Beach T.d_Beach_init.b .nil Al) rfl)), ?_⟩
  walk_at "RD"
  refine Nj fun b S P H1 nb nS nP s1 hb => ?_
  refine ⟨_, _, _, s1.get ed, T.cl_Desk, T.n_Desk_beach, by decide, ?_⟩
  have bd : b ≠ d := fun z => by rw [z, ed] at nb; cases nb
  have Sd : S ≠ d := fun z => by rw [z, ed] at nS; cases nS
  have Pd : P ≠ d := fun z => by rw [z, ed] at nP; cases nP
  refine k _ b S P nb nS nP (fun a u h1 h2 => (AI h1).trans (s1 a u h2)) AG (hb.keep fun a u hc e => (AI ?_).trans e)
  rcases hc with rfl | hc | ⟨xs, rfl⟩
  ·exact bd
  ·simp only [List.mem_cons, List.not_mem_nil, or_false] at hc
   rcases hc with rfl | rfl <;> assumption
  ·intro z; rw [z, s1.get ed] at e; cases e
theorem HK : AN ["self", "row"] ["self", "row"] (AF Cm) := by walk_at "SC"
noncomputable def HC {w : World} {K : PySem.W.Frag} {mg : Str → Option Value} (T : Tx w K mg) : Sp := fun vs H Q E => ∃ (d dx b : Addr) (x : Str), vs = [.ref d, .str x] ∧ H d = some (.ins T.C_Desk dx [("beach", .ref b)]) ∧ Ct T [.ref b, .str x] H Q E
theorem Gw (T : Tx w K mg) : Ag P w K mg base CX0 8 T.f_Desk_answer T.fd_Desk_answer ["self", "row"] (HC T) := by
 refine T.d_Desk_answer.F.ok HK (fun _ _ _ _ h => by walk_at "LN") ?_
 ·walk_at "I2"
  obtain ⟨d, dx, b, x, rfl, ed, k⟩ := h
  refine ⟨_, (AE (AM (pcl T.d_row_answer (Hq T) hr Al (AA (Bi (pv 0) rfl) (AA (pv 1) AC))))), ?_⟩
  walk_at "RD"
  exact ⟨_, dx, _, ed, T.cl_Desk, T.n_Desk_beach, _, rfl, k⟩
theorem G2 : AN ["rows", "desk"] ["rows"] (AF Fq) := by walk_at "SC"
noncomputable def wl (w : Str) : List Nat := w.cps.toList
theorem PQ (w : Str) : tx (wl w) = w := (Nr w).symm
noncomputable def Me (w : Str) (p x y : Int) : List Nat :=
 if w = "back" ∧ p = 1 ∧ x = 1 then wl "back" else if w = "take" ∨ w = "back" then wl w ++ 32 :: dec p else wl w ++ 32 :: (dec p ++ 32 :: (dec x ++ 32 :: dec y))
theorem O7 {w : Str} (h : Wrd w) : w.length ≤ 4 := by
 rcases h with rfl | rfl | rfl | rfl | rfl <;> decide
noncomputable def EH (w : Str) (p x y : Int) : Prop := 999999999 < p.natAbs ∨ (w ≠ "take" ∧ w ≠ "back" ∧ (999999999 < x.natAbs ∨ 999999999 < y.natAbs))
instance {w : Str} {p x y : Int} : Decidable (EH w p x y) := by unfold EH; exact inferInstance
noncomputable def Kd (w : Str) (gs : List G) (past : List (List G)) (p x y : Int) : Str :=
 if EH w p x y then LH .badrow else match A8 w gs past p x y with
  | some e => LH e
  | none => if w = "back" then tx (Cf (CQ w gs past p).length) else tx (Ex p (Ak w gs p x y).1 (Ak w gs p x y).2)
noncomputable def Fh (w : Str) (gs : List G) (past : List (List G)) (p x y : Int) : List G × List (List G) := if EH w p x y then (gs, past) else aft w gs past p x y
theorem Oz {w : Str} {gs : List G} {p x y : Int} (sd : Std gs) (hx : Bg x) (hy : Bg y) : (Ak w gs p x y).1.natAbs ≤ 10 ^ 40 ∧ (Ak w gs p x y).2.natAbs ≤ 10 ^ 40 := by
 have big : (20000000000000000000000000000000 : Nat) ≤ 10 ^ 40 := by decide +kernel
 obtain ⟨f0, f1, h0, h1⟩ : -1000 ≤ (AW gs p).elim 0 G.f ∧ (AW gs p).elim 0 G.f ≤ 1000 ∧ -1000 ≤ (AW gs p).elim 0 G.h ∧ (AW gs p).elim 0 G.h ≤ 1000 := by
  cases hg : AW gs p with
  | none => exact ⟨by decide, by decide, by decide, by decide⟩
  | some g =>
   have o := sd.ok g (Aw hg).1
   exact ⟨o.f0, Int.le_trans o.fh o.h1, Int.le_trans o.f0 o.fh, o.h1⟩
 unfold Bg at hx hy
 unfold Ak
 generalize (AW gs p).elim 0 G.f = a at *
 generalize (AW gs p).elim 0 G.h = b at *
 constructor <;> refine Nat.le_trans ?_ big <;> (repeat' split) <;> dsimp only <;> lia
theorem OK : Str.ofString "gate " = tx [103, 97, 116, 101, 32] := by rfl
noncomputable def NG (n : Int) : Int := if n < 0 then -n else n
noncomputable def OH : V → V
 | .int n => .int (NG n)
 | v => v
theorem Tc (e : Err) : OV e ≠ Str.ofString "" := by cases e <;> decide +kernel
theorem O5 (e : Err) : Str.ofString "refused: " ++ OV e = LH e := by cases e <;> decide +kernel
inductive Rw where
 | deed (w : Str) (p x y : Int) | gates | deeds
noncomputable abbrev St2 := List G × List (List G)
noncomputable def E4 : Rw → List Nat
 | .deed w p x y => Me w p x y
 | .gates => [103, 97, 116, 101, 115]
 | .deeds => [100, 101, 101, 100, 115]
noncomputable def JT : Rw → St2 → Str
 | .deed w p x y, s => Kd w s.1 s.2 p x y
 | .gates, s => tx (HL s.1)
 | .deeds, s => tx (Cf s.2.length)
noncomputable def Ho : Rw → St2 → St2
 | .deed w p x y, s => Fh w s.1 s.2 p x y
 | _, s => s
noncomputable def OkR : Rw → Prop
 | .deed w p x y => Wrd w ∧ Bg p ∧ Bg x ∧ Bg y
 | _ => True
noncomputable def stX (rs : List Rw) (s : St2) : St2 := rs.foldl (fun s r => Ho r s) s
noncomputable def anX : List Rw → St2 → List Str
 | [], _ => []
 | r :: rs, s => JT r s :: anX rs (Ho r s)
theorem Df (rs : List Rw) (r : Rw) (s : St2) : stX (rs ++ [r]) s = Ho r (stX rs s) := by unfold stX; rw [List.foldl_append]; rfl
theorem Dr : ∀ (rs : List Rw) (r : Rw) (s : St2), anX (rs ++ [r]) s = anX rs s ++ [JT r (stX rs s)]
 | [], _, _ => rfl
 | q :: rs, r, s => by
  show JT q s :: anX (rs ++ [r]) (Ho q s) = _
  rw [Dr rs r]; rfl
theorem DX : ∀ (rs : List Rw) (s : St2), (anX rs s).length = rs.length
 | [], _ => rfl
 | _ :: rs, _ => congrArg (· + 1) (DX rs _)
theorem Dg (n : Int) : ∀ c ∈ dec n, c < 128 := fun c h => by have := Ij n c h; lia
theorem Lc (n : Int) : 32 ∉ dec n := fun h => by have := Ij n 32 h; lia
theorem Op (p : Int) : numsOf [dec p] = if 999999999 < p.natAbs then none else some [p] := by
 split
 ·rename_i h; exact Bb (w := dec p) (by simp) (GX h)
 ·rename_i h; simp only [numsOf, GW (show p.natAbs ≤ 999999999 by lia)]; rfl
theorem MN (p x y : Int) : numsOf [dec p, dec x, dec y] = if 999999999 < p.natAbs ∨ 999999999 < x.natAbs ∨ 999999999 < y.natAbs then none else some [p, x, y] := by
 split
 ·rename_i h
  rcases h with h | h | h
  ·exact Bb (w := dec p) (by simp) (GX h)
  ·exact Bb (w := dec x) (by simp) (GX h)
  ·exact Bb (w := dec y) (by simp) (GX h)
 ·rename_i h
  simp only [numsOf, GW (show p.natAbs ≤ 999999999 by lia), GW (show x.natAbs ≤ 999999999 by lia), GW (show y.natAbs ≤ 999999999 by lia)]; rfl
theorem cut1 {w : List Nat} (p : Int) (h : 32 ∉ w) : Bw 32 (w ++ 32 :: dec p) = [w, dec p] := by rw [C5 h, EA (Lc p)]
theorem SW {w : List Nat} (p x y : Int) (h : 32 ∉ w) : Bw 32 (w ++ 32 :: (dec p ++ 32 :: (dec x ++ 32 :: dec y))) = [w, dec p, dec x, dec y] := by
 rw [C5 h, C5 (Lc p), C5 (Lc x), EA (Lc y)]
theorem okL1 {w : List Nat} {p : Int} (h : ∀ c ∈ w, c < 128) (l : w.length ≤ 100) (b : Bg p) : OkL (w ++ 32 :: dec p) := by
 have := BS b.b40
 refine ⟨fun c hc => ?_, by simp only [List.length_append, List.length_cons]; lia⟩
 simp only [List.mem_append, List.mem_cons] at hc
 rcases hc with hc | rfl | hc
 ·exact h c hc
 ·decide
 ·exact Dg _ c hc
theorem Sx {w : List Nat} {p x y : Int} (h : ∀ c ∈ w, c < 128) (l : w.length ≤ 100) (b1 : Bg p) (b2 : Bg x) (b3 : Bg y) : OkL (w ++ 32 :: (dec p ++ 32 :: (dec x ++ 32 :: dec y))) := by
 have := BS b1.b40
 have := BS b2.b40
 have := BS b3.b40
 refine ⟨fun c hc => ?_, by simp only [List.length_append, List.length_cons]; lia⟩
 simp only [List.mem_append, List.mem_cons] at hc
 rcases hc with hc | rfl | hc | rfl | hc | rfl | hc
 ·exact h c hc
 ·decide
 ·exact Dg _ c hc
 ·decide
 ·exact Dg _ c hc
 ·decide
 ·exact Dg _ c hc
theorem okW1 {p : Int} (b : Bg p) : OkW [dec p] := ⟨fun z hz => by
 rw [List.mem_singleton.mp hz]
 have := BS b.b40
 exact ⟨Dg p, by lia⟩, by show 1 ≤ 100001; decide⟩
theorem Pt {p x y : Int} (b1 : Bg p) (b2 : Bg x) (b3 : Bg y) : OkW [dec p, dec x, dec y] := ⟨fun z hz => by
 have := BS b1.b40
 have := BS b2.b40
 have := BS b3.b40
 simp only [List.mem_cons, List.not_mem_nil, or_false] at hz
 rcases hz with rfl | rfl | rfl
 ·exact ⟨Dg _, by lia⟩
 ·exact ⟨Dg _, by lia⟩
 ·exact ⟨Dg _, by lia⟩, by show 3 ≤ 100001; decide⟩
theorem UJ : OkW [] := ⟨fun p hp => absurd hp (by simp), by decide⟩
theorem Mr {w : World} {K : PySem.W.Frag} {mg : Str → Option Value} {T : Tx w K mg} {H : Hp} {Q : VK} {E : XK} {b S P : Addr} {ow : List Addr} {st : St2} {r : Rw} (hr : OkR r) (hb : Bch T.C_Beach H b S P ow st.1 st.2)
  (k : ∀ H' S' P' ow', Kp b P H H' → Bch T.C_Beach H' b S' P' ow' (Ho r st).1 (Ho r st).2 → (∀ a ∈ ow', a ∈ ow ∨ H a = none) → Q (.str (JT r st)) H') : Ct T [.ref b, .str (tx (E4 r))] H Q E := by
 obtain ⟨gs, past⟩ := st
 refine ⟨b, _, rfl, fun E' hE => ?_⟩
 cases r with
 | gates => exact ⟨b, _, tx2 "gates", [], rfl, ⟨by decide, by decide⟩, by decide +kernel, .inr (.inr (.inr (.inr (.inr (.inr (.inl ⟨rfl, fun W H1 n1 s1 e1 => ⟨b, S, P, ow, gs, past, W, [], rfl, hb.same s1, SqL.of e1, UJ, fun h => absurd rfl h, fun _ H' s' => k H' S P ow (Kp.of (s1.trans s')) (hb.same (s1.trans s')) fun a ha => .inl ha⟩⟩))))))⟩
 | deeds => exact ⟨b, _, tx2 "deeds", [], rfl, ⟨by decide, by decide⟩, by decide +kernel, .inr (.inr (.inr (.inr (.inr (.inl ⟨rfl, fun W H1 n1 s1 e1 => ⟨b, S, P, ow, gs, past, W, [], rfl, hb.same s1, SqL.of e1, UJ, fun h => absurd rfl h, fun _ H' s' => k H' S P ow (Kp.of (s1.trans s')) (hb.same (s1.trans s')) fun a ha => .inl ha⟩⟩)))))⟩
 | deed w p x y =>
  obtain ⟨wd, bp, bx, by_⟩ := hr
  have kB : EH w p x y → ∀ H', AH H H' → E' (T.err .badrow) none H' := fun hb1 H' s => hE _ _ (by
   have := k H' S P ow (Kp.of s) (by show Bch _ _ _ _ _ _ (Fh w gs past p x y).1 (Fh w gs past p x y).2; unfold Fh; rw [if_pos hb1]; exact hb.same s) fun a ha => .inl ha
   show Q _ _
   have e : JT (.deed w p x y) (gs, past) = LH .badrow := if_pos hb1
   rwa [e] at this)
  have kE : ¬ EH w p x y → ∀ e, A8 w gs past p x y = some e → ∀ H', AH H H' → E' (T.err e) none H' := fun hb1 e he H' s => hE _ _ (by
   have := k H' S P ow (Kp.of s) (by show Bch _ _ _ _ _ _ (Fh w gs past p x y).1 (Fh w gs past p x y).2; unfold Fh; rw [if_neg hb1, Lw he]; exact hb.same s) fun a ha => .inl ha
   have e : JT (.deed w p x y) (gs, past) = LH e := by
    show Kd w gs past p x y = _
    unfold Kd
    rw [if_neg hb1, he]
   rwa [e] at this)
  have kN : ¬ EH w p x y → A8 w gs past p x y = none → ∀ H1 H' S' P' ow', AH H H1 → Kp b P H1 H' → Bch T.C_Beach H' b S' P' ow' (B2 w gs past p x y) (CQ w gs past p) → (∀ a ∈ ow', a ∈ ow ∨ H1 a = none) → Q (.str (if w = "back" then tx (Cf (CQ w gs past p).length) else tx (Ex p (Ak w gs p x y).1 (Ak w gs p x y).2))) H' := fun hb1 he H1 H' S' P' ow' s kp hb' ho => by
   have := k H' S' P' ow' ((Kp.of s).trans kp) (by show Bch _ _ _ _ _ _ (Fh w gs past p x y).1 (Fh w gs past p x y).2; unfold Fh; rw [if_neg hb1, NW he]; exact hb') fun a ha => (ho a ha).imp id fun z => s.free z
   have e : JT (.deed w p x y) (gs, past) = if w = "back" then tx (Cf (CQ w gs past p).length) else tx (Ex p (Ak w gs p x y).1 (Ak w gs p x y).2) := by
    show Kd w gs past p x y = _
    unfold Kd
    rw [if_neg hb1, he]
   rwa [e] at this
  clear k hE
  rcases wd with rfl | rfl | rfl | rfl | rfl
  ·have e1 : EH "put" p x y ↔ 999999999 < p.natAbs ∨ 999999999 < x.natAbs ∨ 999999999 < y.natAbs := ⟨fun z => z.imp id fun z => z.2.2, fun z => z.imp id fun z => ⟨by decide, by decide, z⟩⟩
   refine ⟨b, _, tx2 "put", [dec p, dec x, dec y], rfl, Sx (by decide +kernel) (by decide +kernel) bp bx by_, SW p x y (by decide +kernel), .inl ⟨rfl, fun W H1 n1 s1 e2 => ⟨b, S, P, ow, gs, past, W, _, rfl, hb.same s1, SqL.of e2, Pt bp bx by_, fun h H2 s2 => ?_, fun p' f' h' hz => ?_⟩⟩⟩
   ·rw [MN] at h
    refine kB ?_ _ (s1.trans s2)
    by_cases hc : 999999999 < p.natAbs ∨ 999999999 < x.natAbs ∨ 999999999 < y.natAbs
    ·exact e1.mpr hc
    ·rw [if_neg hc] at h
     exact (h.elim (fun z => z rfl) fun z => by cases z).elim
   ·rw [MN] at hz
    by_cases hc : 999999999 < p.natAbs ∨ 999999999 < x.natAbs ∨ 999999999 < y.natAbs
    ·rw [if_pos hc] at hz; cases hz
    rw [if_neg hc] at hz
    cases hz
    have hn := fun z => hc (e1.mp z)
    have eE := IR (gs := gs) (past := past) (p := p) (x := x) (y := y) (w := "put") rfl
    refine ⟨fun e he H2 s2 => kE hn e (eE.trans he) _ (s1.trans s2), fun he H2 S' ow' kp hb' ho => ?_⟩
    have := kN hn (eE.trans he) H1 H2 S' P ow' s1 kp (by rw [De (by decide) (by decide), C6 (by decide)]; exact hb') ho
    rw [if_neg (by decide)] at this
    exact this
  ·have e1 : EH "take" p x y ↔ 999999999 < p.natAbs := ⟨fun z => z.elim id fun z => absurd rfl z.1, .inl⟩
   refine ⟨b, _, tx2 "take", [dec p], rfl, okL1 (by decide +kernel) (by decide +kernel) bp, cut1 p (by decide +kernel), .inr (.inl ⟨rfl, fun W H1 n1 s1 e2 => ⟨b, S, P, ow, gs, past, W, _, rfl, hb.same s1, SqL.of e2, okW1 bp, fun h H2 s2 => ?_, fun p' hz => ?_⟩⟩)⟩
   ·rw [Op] at h
    refine kB ?_ _ (s1.trans s2)
    by_cases hc : 999999999 < p.natAbs
    ·exact e1.mpr hc
    ·rw [if_neg hc] at h
     exact (h.elim (fun z => z rfl) fun z => by cases z).elim
   ·rw [Op] at hz
    by_cases hc : 999999999 < p.natAbs
    ·rw [if_pos hc] at hz; cases hz
    rw [if_neg hc] at hz
    cases hz
    have hn := fun z => hc (e1.mp z)
    have eE := Ee (gs := gs) (past := past) (p := p) (x := x) (y := y) (w := "take") rfl
    refine ⟨fun e he H2 s2 => kE hn e (eE.trans he) _ (s1.trans s2), fun g hg he H2 S' ow' kp hb' ho => ?_⟩
    have := kN hn (eE.trans he) H1 H2 S' P ow' s1 kp (by rw [Eo rfl, C6 (by decide)]; exact hb') ho
    rw [if_neg (by decide), show Ak "take" gs p x y = (g.f, g.h) by unfold Ak; rw [if_neg (by decide), if_neg (by decide), if_neg (by decide), hg]; rfl] at this
    exact this
  ·have e1 : EH "lift" p x y ↔ 999999999 < p.natAbs ∨ 999999999 < x.natAbs ∨ 999999999 < y.natAbs := ⟨fun z => z.imp id fun z => z.2.2, fun z => z.imp id fun z => ⟨by decide, by decide, z⟩⟩
   refine ⟨b, _, tx2 "lift", [dec p, dec x, dec y], rfl, Sx (by decide +kernel) (by decide +kernel) bp bx by_, SW p x y (by decide +kernel), .inr (.inr (.inl ⟨rfl, fun W H1 n1 s1 e2 => ⟨b, S, P, ow, gs, past, W, _, rfl, hb.same s1, SqL.of e2, Pt bp bx by_, fun h H2 s2 => ?_, fun p' f' h' hz => ?_⟩⟩))⟩
   ·rw [MN] at h
    refine kB ?_ _ (s1.trans s2)
    by_cases hc : 999999999 < p.natAbs ∨ 999999999 < x.natAbs ∨ 999999999 < y.natAbs
    ·exact e1.mpr hc
    ·rw [if_neg hc] at h
     exact (h.elim (fun z => z rfl) fun z => by cases z).elim
   ·rw [MN] at hz
    by_cases hc : 999999999 < p.natAbs ∨ 999999999 < x.natAbs ∨ 999999999 < y.natAbs
    ·rw [if_pos hc] at hz; cases hz
    rw [if_neg hc] at hz
    cases hz
    have hn := fun z => hc (e1.mp z)
    have eE := HP (gs := gs) (past := past) (p := p) (x := x) (y := y) (w := "lift") rfl
    refine ⟨fun e he H2 s2 => kE hn e (eE.trans he) _ (s1.trans s2), fun g hg he H2 S' ow' kp hb' ho => ?_⟩
    have ew : Ak "lift" gs p x y = (g.f + x, g.h + y) := by unfold Ak; rw [if_neg (by decide), if_pos rfl, hg]; rfl
    have := kN hn (eE.trans he) H1 H2 S' P ow' s1 kp (by rw [De (by decide) (by decide), C6 (by decide), ew]; exact hb') ho
    rw [if_neg (by decide), ew] at this
    exact this
  ·have e1 : EH "sink" p x y ↔ 999999999 < p.natAbs ∨ 999999999 < x.natAbs ∨ 999999999 < y.natAbs := ⟨fun z => z.imp id fun z => z.2.2, fun z => z.imp id fun z => ⟨by decide, by decide, z⟩⟩
   refine ⟨b, _, tx2 "sink", [dec p, dec x, dec y], rfl, Sx (by decide +kernel) (by decide +kernel) bp bx by_, SW p x y (by decide +kernel), .inr (.inr (.inr (.inl ⟨rfl, fun W H1 n1 s1 e2 => ⟨b, S, P, ow, gs, past, W, _, rfl, hb.same s1, SqL.of e2, Pt bp bx by_, fun h H2 s2 => ?_, fun p' f' h' hz => ?_⟩⟩)))⟩
   ·rw [MN] at h
    refine kB ?_ _ (s1.trans s2)
    by_cases hc : 999999999 < p.natAbs ∨ 999999999 < x.natAbs ∨ 999999999 < y.natAbs
    ·exact e1.mpr hc
    ·rw [if_neg hc] at h
     exact (h.elim (fun z => z rfl) fun z => by cases z).elim
   ·rw [MN] at hz
    by_cases hc : 999999999 < p.natAbs ∨ 999999999 < x.natAbs ∨ 999999999 < y.natAbs
    ·rw [if_pos hc] at hz; cases hz
    rw [if_neg hc] at hz
    cases hz
    have hn := fun z => hc (e1.mp z)
    have eE := HW (gs := gs) (past := past) (p := p) (x := x) (y := y) (w := "sink") rfl
    refine ⟨fun e he H2 s2 => kE hn e (eE.trans he) _ (s1.trans s2), fun g hg he H2 S' ow' kp hb' ho => ?_⟩
    have ew : Ak "sink" gs p x y = (g.f + (-x), g.h + (-y)) := by unfold Ak; rw [if_neg (by decide), if_neg (by decide), if_pos rfl, hg]; rfl
    have := kN hn (eE.trans he) H1 H2 S' P ow' s1 kp (by rw [De (by decide) (by decide), C6 (by decide), ew]; exact hb') ho
    rw [if_neg (by decide), ew] at this
    exact this
  ·have e1 : EH "back" p x y ↔ 999999999 < p.natAbs := ⟨fun z => z.elim id fun z => absurd rfl z.2.1, .inl⟩
   have eE := Eg (gs := gs) (past := past) (p := p) (x := x) (y := y) (w := "back") rfl
   have fin : ¬ EH "back" p x y → ∀ H1, AH H H1 → (∀ e, Db past p = some e → ∀ H', AH H1 H' → E' (T.err e) none H') ∧ (Db past p = none → ∀ H' S' P' ow', Kp b P H1 H' → Bch T.C_Beach H' b S' P' ow' (past.getD (past.length - p.toNat) []) (past.take (past.length - p.toNat)) → (∀ a ∈ ow', a ∈ ow ∨ H1 a = none) → Q (.str (tx (Cf ((past.take (past.length - p.toNat)).length : Int)))) H') := fun hn H1 s1 =>
    ⟨fun e he H2 s2 => kE hn e (eE.trans he) _ (s1.trans s2), fun he H2 S' P' ow' kp hb' ho => by
     have := kN hn (eE.trans he) H1 H2 S' P' ow' s1 kp (by rw [show B2 "back" gs past p x y = past.getD (past.length - p.toNat) [] from if_pos rfl, show CQ "back" gs past p = past.take (past.length - p.toNat) from if_pos rfl]; exact hb') ho
     rw [if_pos rfl, show CQ "back" gs past p = past.take (past.length - p.toNat) from if_pos rfl] at this
     exact this⟩
   by_cases hs : p = 1 ∧ x = 1
   ·have er : E4 (.deed "back" p x y) = wl "back" := if_pos ⟨rfl, hs.1, hs.2⟩
    rw [er]
    refine ⟨b, _, tx2 "back", [], rfl, ⟨by decide +kernel, by decide +kernel⟩, by decide +kernel, .inr (.inr (.inr (.inr (.inl ⟨rfl, fun W H1 n1 s1 e2 => ⟨b, S, P, ow, gs, past, W, [], rfl, hb.same s1, SqL.of e2, UJ, fun h => absurd h (by simp [numsOf]), fun n hn => ?_⟩⟩))))⟩
    obtain rfl : n = 1 := hn.elim (fun z => z.2) fun z => by cases z
    obtain ⟨rfl, _⟩ := hs
    exact fin (fun z => absurd (e1.mp z) (by decide)) H1 s1
   ·have er : E4 (.deed "back" p x y) = wl "back" ++ 32 :: dec p := by
     show Me _ _ _ _ = _
     unfold Me
     rw [if_neg (fun z => hs z.2), if_pos (.inr rfl)]
    rw [er]
    refine ⟨b, _, tx2 "back", [dec p], rfl, okL1 (by decide +kernel) (by decide +kernel) bp, cut1 p (by decide +kernel), .inr (.inr (.inr (.inr (.inl ⟨rfl, fun W H1 n1 s1 e2 => ⟨b, S, P, ow, gs, past, W, _, rfl, hb.same s1, SqL.of e2, okW1 bp, fun h H2 s2 => ?_, fun n hz => ?_⟩⟩))))⟩
    ·rw [Op] at h
     refine kB ?_ _ (s1.trans s2)
     by_cases hc : 999999999 < p.natAbs
     ·exact e1.mpr hc
     ·rw [if_neg hc] at h
      exact h.elim (fun z => absurd z (by show ¬ 2 ≤ 1; decide)) fun z => nomatch z
    ·rcases hz with ⟨z, _⟩ | hz
     ·cases z
     rw [Op] at hz
     by_cases hc : 999999999 < p.natAbs
     ·rw [if_pos hc] at hz; cases hz
     rw [if_neg hc] at hz
     cases hz
     exact fin (fun z => hc (e1.mp z)) H1 s1
noncomputable def Kw {w : World} {K : PySem.W.Frag} {mg : Str → Option Value} (T : Tx w K mg) : Sp := fun vs H Q E => ∃ (R : Addr) (rs : List Rw), vs = [.ref R] ∧ SqL K H R (rs.map fun r => V.str (tx (E4 r))) ∧ (∀ r ∈ rs, OkR r) ∧ rs.length ≤ 1000 ∧ ∀ D H', H D = none → AH H H' → H' D = some (.lst ((anX rs ([], [])).map V.str)) → Q (.ref D) H'
theorem Scr.keepX {K : PySem.W.Frag} {ow : List Addr} {H H' : Hp} {a : Addr} {xs : List V} (h : Scr K ow H a xs) (k1 : ∀ c ys, c ∉ ow → H c = some (.lst ys) → H' c = some (.lst ys)) (k2 : ∀ c o u, H c = some (.frz o u) → H' c = some (.frz o u)) : Scr K ow H' a xs := by
 rcases h with ⟨h, n⟩ | ⟨o, h⟩ | h
 ·exact .inl ⟨k1 _ _ n h, n⟩
 ·exact .inr (.inl ⟨o, k2 _ _ _ h⟩)
 ·exact .inr (.inr h)
theorem Wa.upd {H : Hp} {gs : List G} {past : List (List G)} {D L A : Addr} {xs : List V} {o : HO} (h : Wa H gs past D L) (e : H A = some (.lst xs)) (n : A ≠ L) : Wa (L2.upd H A o) gs past D L := by
 have dk : ∀ {D gs}, Ay H D gs → Ay (L2.upd H A o) D gs := fun h => h.keep (fun _ q => (AI (A4 q e fun z => by cases z)).trans q) fun _ _ q => (AI (A4 q e fun z => by cases z)).trans q
 obtain ⟨ds, e2, pr, nd⟩ := h.pl
 exact ⟨h.std, h.stds, h.len, dk h.dk, ⟨ds, (AI n.symm).trans e2, Paired.mapP pr fun _ _ k => dk k, nd⟩⟩
noncomputable abbrev Iu (rs : List Rw) : List V := rs.map fun r => V.str (tx (E4 r))
noncomputable abbrev GR (rs : List Rw) : List V := (anX rs ([], [])).map V.str
noncomputable abbrev sto (rs : List Rw) : St2 := stX rs ([], [])
structure AU (K : PySem.W.Frag) (H : Hp) (a D L A U : Addr) (xs : List V) (rs rs' : List Rw) (st : St2) : Prop where
 sc : Scr K [A, U, L] H a xs
 ea : H A = some (.lst (Iu rs))
 eu : H U = some (.lst (GR rs'))
 wa : Wa H st.1 st.2 D L
 ok : ∀ r ∈ rs, OkR r
 ne : A ≠ U ∧ A ≠ L ∧ U ≠ L
section
variable {K : PySem.W.Frag} {H H' : Hp} {a D L A U : Addr} {xs : List V} {rs rs' : List Rw} {st st' : St2}
theorem AU.same (h : AU K H a D L A U xs rs rs' st) (s : AH H H') : AU K H' a D L A U xs rs rs' st :=
 ⟨h.sc.keepX (fun _ _ _ e => s.get e) fun _ _ _ e => s.get e, s.get h.ea, s.get h.eu, h.wa.same s, h.ok, h.ne⟩
theorem AU.put (h : AU K H a D L A U xs rs rs' st) {r : Rw} (ok : OkR r) : AU K (L2.upd H A (.lst (Iu rs ++ [V.str (tx (E4 r))]))) a D L A U xs (rs ++ [r]) rs' st := by
 refine ⟨h.sc.keepX (fun c _ n e => (AI (fun z => n (by rw [z]; simp))).trans e) fun c _ _ e => (AI (A4 e h.ea fun z => by cases z)).trans e, ?_, (AI h.ne.1.symm).trans h.eu, h.wa.upd h.ea h.ne.2.1, fun q hq => ?_, h.ne⟩
 ·rw [AG, show Iu (rs ++ [r]) = Iu rs ++ [V.str (tx (E4 r))] from List.map_append]
 ·rcases List.mem_append.mp hq with z | z
  ·exact h.ok q z
  ·rw [List.mem_singleton.mp z]; exact ok
theorem AU.ans (h : AU K H a D L A U xs rs rs' st) {r : Rw} : AU K (L2.upd H U (.lst (GR rs' ++ [V.str (JT r (sto rs'))]))) a D L A U xs rs (rs' ++ [r]) st := by
 refine ⟨h.sc.keepX (fun c _ n e => (AI (fun z => n (by rw [z]; simp))).trans e) fun c _ _ e => (AI (A4 e h.eu fun z => by cases z)).trans e, (AI h.ne.1).trans h.ea, ?_, h.wa.upd h.eu h.ne.2.2, h.ok, h.ne⟩
 rw [AG, show GR (rs' ++ [r]) = GR rs' ++ [V.str (JT r (sto rs'))] by unfold GR; rw [Dr, List.map_append]; rfl]
theorem AU.dl (h : AU K H a D L A U xs rs rs' st) (k : DL D L H H') (w : Wa H' st'.1 st'.2 D L) : AU K H' a D L A U xs rs rs' st' := by
 obtain ⟨kvs, eD, _⟩ := h.wa.dk.len
 obtain ⟨ys, eL, _⟩ := h.wa.plen
 exact ⟨h.sc.keepX (fun c _ n e => k c _ (A4 e eD fun z => by cases z) (fun z => n (by rw [z]; simp)) e) fun c _ _ e => k c _ (A4 e eD fun z => by cases z) (A4 e eL fun z => by cases z) e, k A _ (A4 h.ea eD fun z => by cases z) h.ne.2.1 h.ea, k U _ (A4 h.eu eD fun z => by cases z) h.ne.2.2 h.eu, w, h.ok, h.ne⟩
end
theorem G7 (T : Tx w K mg) : Ag P w K mg base CX0 9 T.f_answers T.fd_answers ["rows"] (Kw T) := by
 refine T.d_answers.F.ok G2 (fun _ _ _ _ h => by walk_at "LN") ?_
 ·walk_at "I2"
  obtain ⟨R, rs, rfl, hR, okr, lr, k⟩ := h
  refine ⟨_, (AD (pst 1 G2 (KA T.mk_Desk (Jg T) (hr.mono (by decide)) (by rfl) T.m_Desk T.d_Desk_init.b .nil Al))
   (AE (AM (Cc rfl (⟨rfl, by decide +kernel, by decide +kernel, by decide +kernel, rfl, by decide +kernel, by with_unfolding_all rfl, by rfl, by rfl, by rfl⟩ : Aq _ _ "row" ["desk"] [1]) (CL (pv 0)) (fun _ _ _ _  => (BQ (pv 1) T.cl_Desk T.d_Desk_answer.mt (Gw T) (hr.mono (by decide)) T.d_Desk_answer.b .nil Al (AA (pv 0) AC))) (fun _ _ _ _ => B8))))), ?_⟩
  walk_at "Q"
  walk_at "RD"
  refine Oi fun d dx b S P H1 nd nb nS nP s1 ed hb => ?_
  walk_at "NX"
  delta Dh
  refine ⟨⟨_, s1.seq hR⟩, fun D nD => ?_⟩
  have bD : b ≠ D := by
   obtain ⟨_, eb⟩ := hb.at_
   exact AO eb nD
  have dD : d ≠ D := AO ed nD
  have ow0 : ∀ a ∈ [S, P], H a = none ∧ a ≠ D := fun a ha => by
   obtain ⟨_, ea⟩ := hb.lv a ha
   simp only [List.mem_cons, List.not_mem_nil, or_false] at ha
   rcases ha with rfl | rfl
   ·exact ⟨nS, AO ea nD⟩
   ·exact ⟨nP, AO ea nD⟩
  refine Fa (xs := rs.map fun r => V.str (tx (E4 r))) (fun i ys H' => ∃ (S P : Addr) (ow : List Addr), ys = (anX (rs.take i) ([], [])).map V.str ∧ AH H H' ∧ H' D = some (.lst ys) ∧ H' d = some (.ins T.C_Desk dx [("beach", .ref b)]) ∧ Bch T.C_Beach H' b S P ow (stX (rs.take i) ([], [])).1 (stX (rs.take i) ([], [])).2 ∧ ∀ a ∈ ow, H a = none ∧ a ≠ D)
   ⟨S, P, [S, P], rfl, s1.trans (Ac nD), AG, (AI dD).trans ed, hb.keep (fun a u hc e => (AI (by
    rcases hc with rfl | hc | ⟨xs, rfl⟩
    ·exact bD
    ·exact (ow0 a hc).2
    ·exact AO e nD)).trans e), ow0⟩ (fun _ _ H' _ ⟨_, _, _, _, s2, _⟩ => s2.seq hR) ?_ ?_
  ·clear hb ow0 S P nS nP
   rintro i v ys H2 hx hy ⟨S, P, ow, rfl, s2, e2, ed2, hb, hw⟩
   have hi : i < rs.length := by
    have := (List.getElem?_eq_some_iff.mp hx).1
    rwa [List.length_map] at this
   have ev : v = V.str (tx (E4 rs[i])) := by
    rw [List.getElem?_map, List.getElem?_eq_getElem hi] at hx
    exact (Option.some.inj hx).symm
   subst ev
   have et : rs.take (i + 1) = rs.take i ++ [rs[i]] := List.take_succ_eq_append_getElem hi
   have ok := okr _ (List.getElem_mem hi)
   delta Da Option.join_some
   refine ⟨dx, _, ed2, rfl, d, dx, b, _, rfl, ed2, Mr ok hb fun H3 S3 P3 ow3 kp hb3 ho => ?_⟩
   obtain ⟨db, eb⟩ := hb.at_
   obtain ⟨ps, ep, _⟩ := hb.pa
   have Pw := hw P hb.po
   have s3 : AH H H3 := fun a u e => kp a u (AO e nb) (AO e Pw.1) (s2 a u e)
   have e3 := kp D _ bD.symm Pw.2.symm e2
   have d3 : H3 d = some (.ins T.C_Desk dx [("beach", .ref b)]) := kp d _ (fun z => by rw [z, eb] at ed2; injection ed2 with h; injection h with _ _ h; cases h) (fun z => by rw [z, ep] at ed2; cases ed2) ed2
   have w3 : ∀ a ∈ ow3, H a = none ∧ a ≠ D := fun a ha => by
    rcases ho a ha with z | z
    ·exact hw a z
    ·exact ⟨s2.free z, fun q => by rw [q, e2] at z; cases z⟩
   rw [List.length_map] at hy ⊢
   refine GF.of (by rw [PySem.sizeLine_eq]; lia) hi (by rw [List.length_map]; exact hy) e3 ⟨?_, s3.updFresh (s1.free nD), AG, (AI dD).trans d3, S3, P3, ow3, ?_, w3⟩
   ·rw [et, Dr, List.map_append]; rfl
   ·rw [et, Df]
    exact hb3.keep fun a u hc e => (AI (by
     rcases hc with rfl | hc | ⟨xs, rfl⟩
     ·exact bD
     ·exact (w3 a hc).2
     ·intro z; rw [z, e3] at e; cases e)).trans e
  ·rintro ys H2 hy ⟨S, P, ow, rfl, s2, e2, _⟩
   rw [List.length_map, List.take_length] at e2
   exact k D H2 (s1.free nD) s2 e2
theorem BH : AN ["_law_cell", "_law_many", "_law_mixed", "_law_row_here", "_law_left", "_law_once", "_law_k"] ["_law_cell", "_law_many", "_law_mixed"] (AF El) := by walk_at "SC"
noncomputable def GB : Sp := fun vs H Q _ => ∃ (c m : Int) (b : Bool), vs = [.int c, .int m, .bl b] ∧ 0 ≤ m ∧ m ≤ 100 ∧ ∀ D H' (xs : List Int), H D = none → AH H H' → H' D = some (.lst (xs.map V.int)) → xs.length = m.toNat → (∀ x ∈ xs, 0 ≤ x ∧ x < 4004001) → Q (.ref D) H'
noncomputable def W_spr (c m : Int) (b : Bool) (D : Addr) (H : Hp) : Nat → St → Hp → Prop := fun i σ H' => ∃ (xs : List Int) (lf on : Int) (k : Option V), σ = [some (.int c), some (.int m), some (.bl b), some (.ref D), some (.int lf), some (.int on), k] ∧ AH H H' ∧ H' D = some (.lst (xs.map V.int)) ∧ xs.length = i ∧ (∀ x ∈ xs, 0 ≤ x ∧ x < 4004001) ∧ 0 ≤ on ∧ on < 2147483647
theorem F5 (T : Tx w K mg) : Ag P w K mg base CX0 1 T.f_w_spread T.fd_w_spread ["_law_cell", "_law_many", "_law_mixed"] GB := by
 refine T.d_w_spread.F.ok BH (fun _ _ _ _ h => by walk_at "LN") ?_
 ·walk_at "I2"
  obtain ⟨c, m, b, rfl, h0, h1, k⟩ := h
  refine ⟨_, (AD (pst 3 BH (Aa AC))
   (AD (pst 4 BH (pv 0))
   (AD (pst 5 BH (AL Ad (pv 0) AB))
   (AD (Ei PassesOwn.never rfl (EC (by rfl) T.z_range (AA (pv 1) AC)) (pgn 6 BH)
    (AD (pst 5 BH (AL Ad (AL Bh (AL Bh (AL JC (pv 5) AB) AB) (pv 6)) AB))
     (AE (Ai (Ej (pv 2)) (AE (Am (BD (pv 3) (AL Ad (AL Ad (AL Bh (AL JC (pv 5) AB) (pv 6)) AB) AB))))
      (AD (Am (BD (pv 3) (AL Ad (pv 4) AB)))
       (AE (pst 4 BH (AL EE (pv 4) AB))))))))
   (AE (AM (pv 3))))))), ?_⟩
  walk_at "RD"
  walk_at "AUTO"
  refine ⟨_, rfl, m, rfl, by lia, by lia, C1 (n := m.toNat) (W_spr c m b p H) ⟨[], _, _, none, rfl, hs, he, rfl, fun _ z => absurd z (by simp), by lia, by lia⟩ ?_ ?_⟩
  ·rintro i σ H1 hi ⟨xs, lf, on, k', rfl, s1, e1, hl, hb, o1, o2⟩
   have hz : (xs.map V.int).length < sizeLine := by rw [List.length_map, PySem.sizeLine_eq]; lia
   walk_at "RD"
   walk_at "AUTO"
   cases b
   ·rw [if_neg (by decide)]
    refine ⟨⟨_, e1⟩, _, e1, hz, ?_⟩
    walk_at "AUTO"
    refine ⟨xs ++ [lf % 4004001], _, _, _, rfl, s1.updFresh hn, ?_, by rw [List.length_append, hl]; rfl, fun z hz => (List.mem_append.mp hz).elim (hb z) (fun q => by rw [List.mem_singleton.mp q]; lia), by lia, by lia⟩
    rw [AG, List.map_append]; rfl
   ·rw [if_pos rfl]
    refine ⟨⟨_, e1⟩, _, e1, hz, ?_⟩
    walk_at "AUTO"
    refine ⟨xs ++ [((on * 48271 + 11 + (0 + (i : Int))) % 2147483647 * 69621 + (0 + (i : Int))) % 2147483647 % 4004001], _, _, _, rfl, s1.updFresh hn, ?_, by rw [List.length_append, hl]; rfl, fun z hz => (List.mem_append.mp hz).elim (hb z) (fun q => by rw [List.mem_singleton.mp q]; lia), by lia, by lia⟩
    rw [AG, List.map_append]; rfl
  ·rintro σ H1 ⟨xs, lf, on, k', rfl, s1, e1, hl, hb, o1, o2⟩
   walk_at "RD"
   exact k _ _ xs hn s1 e1 hl hb
theorem L6 : AN ["_law_draw"] ["_law_draw"] (AF Gr) := by walk_at "SC"
noncomputable def DB (K : PySem.W.Frag) : Sp := fun vs H Q _ => ∃ d : Int, vs = [.int d] ∧ ∀ H' v, v.natAbs ≤ 1000000000000000000000000000000 → AH H H' → Q (.int v) H'
theorem D6 (T : Tx w K mg) : Ag P w K mg base CX0 1 T.f_w_menu T.fd_w_menu ["_law_draw"] (DB K) := by
 refine T.d_w_menu.F.ok L6 (fun _ _ _ _ h => by walk_at "LN") ?_
 ·walk_at "I2"
  obtain ⟨d, rfl, k⟩ := h
  refine ⟨_, (AE (AM (pxi AK (Aa (AA (Fy Dv AB) (AA (Fy Dv AB) (AA (Fy Dv AB) (AA AB (AA AB (AA AB (AA AB (AA (AL K3 AB AB) (AA (Fy Dv (AL K3 AB AB)) AC)))))))))) (AL Ad (pv 0) AB)))), ?_⟩
  walk_at "RD"
  refine ⟨by decide, fun D H1 n1 s1 e1 => ?_⟩
  exact ⟨_, SqL.of e1, _, As (xs := [-1001, -1000, -999, 0, 999, 1000, 1001, 1000000000000000000000000000000, -1000000000000000000000000000000]) (by lia) (by simp only [List.length_cons, List.length_nil]; lia), k _ _ (M8 (P := fun v => v.natAbs ≤ 1000000000000000000000000000000) (by decide) (by decide) _) s1⟩
theorem OR : AN ["_law_script", "_law_k"] ["_law_script", "_law_k"] (AF LI) := by walk_at "SC"
noncomputable def Lg (K : PySem.W.Frag) : Sp := fun vs H Q _ => ∃ (a : Addr) (k : Int) (ns : List Int), vs = [.ref a, .int k] ∧ 0 ≤ k ∧ SqL K H a (ns.map V.int) ∧ Q (.int (ns.getD k.toNat 0)) H
theorem OU (T : Tx w K mg) : Ag P w K mg base CX0 1 T.f_w_at T.fd_w_at ["_law_script", "_law_k"] (Lg K) := by
 refine T.d_w_at.F.ok OR (fun _ _ _ _ h => by walk_at "LN") ?_
 ·walk_at "I2"
  obtain ⟨a, k, ns, rfl, h0, hS, hq⟩ := h
  refine ⟨_, (AD (Ai (ptc KW (pv 1) (AQ AR (by rfl) T.z_len Ar (AA (pv 0) AC))) (AE (AM (pxi AK (pv 0) (pv 1))))
    AT)
   (AE (AM AB))), ?_⟩
  walk_at "RD"
  refine ⟨_, Or.inl hS, ?_⟩
  obtain ⟨k, rfl⟩ := Int.eq_ofNat_of_zero_le h0
  rw [List.length_map]
  by_cases hk : k < ns.length
  ·rw [if_pos (by simpa using hk)]
   refine ⟨_, hS, _, Cb (v := V.int (ns.getD k 0)) ?_, hq⟩
   rw [List.getElem?_map, List.getElem?_eq_getElem hk, List.getD_eq_getElem?_getD, List.getElem?_eq_getElem hk]
   rfl
  ·rw [if_neg (by simpa using hk)]
   rw [Int.toNat_natCast, List.getD_eq_getElem?_getD, List.getElem?_eq_none (by lia)] at hq
   exact hq
theorem Jz : AN ["_law_script", "_law_cell"] ["_law_script"] (AF JS) := by walk_at "SC"
noncomputable def G3 (K : PySem.W.Frag) : Sp := fun vs H Q _ => ∃ (a : Addr) (ns : List Int), vs = [.ref a] ∧ SqL K H a (ns.map V.int) ∧ ∀ H' v, AH H H' → Q (.int v) H'
theorem Kh (T : Tx w K mg) : Ag P w K mg base CX0 2 T.f_w_how T.fd_w_how ["_law_script"] (G3 K) := by
 refine T.d_w_how.F.ok Jz (fun _ _ _ _ h => by walk_at "LN") ?_
 ·walk_at "I2"
  obtain ⟨a, ns, rfl, hS, k⟩ := h
  refine ⟨_, (AD (pst 1 Jz (pcl T.d_w_at (OU T) hr Al (AA (pv 0) (AA AB AC))))
   (AE (AM (pxi AK (pcl T.d_w_spread (F5 T) hr Al (AA (pv 1) (AA AB (AA (pec BR (AL Ad (pv 1) AB) AB) AC)))) AB)))), ?_⟩
  delta Lg GB
  refine ⟨ns, hS, ⟨_, rfl⟩, ⟨_, rfl⟩, fun D H1 xs n1 s1 e1 l1 _ => ?_⟩
  exact ⟨_, SqL.of e1, _, As (by lia) (by lia), k _ _ s1⟩
theorem An : AN ["_law_script", "_law_k", "_law_stands", "_law_past", "_law_how_here", "_law_mixed", "_law_row_here", "_law_word", "_law_pool", "_law_place", "_law_many", "_law_kind", "_law_one", "_law_two", "_law_line", "_law_any_two", "_law_foot", "_law_head"] ["_law_script", "_law_k", "_law_stands", "_law_past"] (AF Gg) := by walk_at "SC"
theorem plB {v : Int} (h : -1000 ≤ v ∧ v ≤ 1000) : -3000 ≤ v ∧ v ≤ 3000 := by lia
theorem stP {gs : List G} {p : Int} (s : Std gs) (h : p ∈ Ab gs) : -1000 ≤ p ∧ p ≤ 1000 := by
 obtain ⟨g, hg, rfl⟩ := List.mem_map.mp h
 exact ⟨(s.ok g hg).p0, (s.ok g hg).p1⟩
theorem lnB {a b : Int} (h1 : -3000 ≤ a) (h2 : a ≤ 3000) (h3 : -2 ≤ b) (h4 : b ≤ 2) : -6000 ≤ a * b ∧ a * b ≤ 6000 := by
 rcases (show b = -2 ∨ b = -1 ∨ b = 0 ∨ b = 1 ∨ b = 2 by lia) with rfl | rfl | rfl | rfl | rfl <;> lia
theorem Nz {l : List V} {e : Int} {P : V → Prop} (h : ∀ v ∈ l, ∃ i, v = V.int i ∧ i.natAbs ≤ 2000000000000000000000000000000) (h0 : 0 ≤ e) (h1 : e < l.length) (k : ∀ i : Int, i.natAbs ≤ 2000000000000000000000000000000 → P (.int i)) : ∃ x, atI l e = some x ∧ P x := by
 obtain ⟨n, rfl⟩ := Int.eq_ofNat_of_zero_le h0
 have hn : n < l.length := by lia
 obtain ⟨i, e1, hb⟩ := h _ (List.getElem_mem hn)
 exact ⟨.int i, Cb (by rw [List.getElem?_eq_getElem hn, e1]), k i hb⟩
theorem deedW {e : Int} (h1 : 0 ≤ e) (h2 : e < 7) : ∃ w, atI [V.str "put", V.str "put", V.str "put", V.str "lift", V.str "sink", V.str "take", V.str "back"] e = some (V.str w) ∧ Wrd w := by
 rcases (show e = 0 ∨ e = 1 ∨ e = 2 ∨ e = 3 ∨ e = 4 ∨ e = 5 ∨ e = 6 by lia) with rfl | rfl | rfl | rfl | rfl | rfl | rfl
 ·exact ⟨_, rfl, .put rfl⟩
 ·exact ⟨_, rfl, .put rfl⟩
 ·exact ⟨_, rfl, .put rfl⟩
 ·exact ⟨_, rfl, .lift rfl⟩
 ·exact ⟨_, rfl, .sink rfl⟩
 ·exact ⟨_, rfl, .take rfl⟩
 ·exact ⟨_, rfl, .back rfl⟩
noncomputable def MK (K : PySem.W.Frag) : Sp := fun vs H Q _ => ∃ (a : Addr) (k : Int) (ns : List Int) (D L : Addr) (gs : List G) (xs : List V), vs = [.ref a, .int k, .ref D, .ref L] ∧ SqL K H a (ns.map V.int) ∧ 0 ≤ k ∧ k < ns.length ∧ ns.length ≤ 63 ∧ Ay H D gs ∧ Std gs ∧ H L = some (.lst xs) ∧ xs.length ≤ 300 ∧ ∀ (D : Addr) (H' : Hp) (w : Str) (p x y : Int), H D = none → AH H H' → H' D = some (.tup [.str w, .int p, .int x, .int y]) → Wrd w → Bg p → Bg x → Bg y → Q (.ref D) H'
theorem Mj (T : Tx w K mg) : Ag P w K mg base CX0 3 T.f_w_deed T.fd_w_deed ["_law_script", "_law_k", "_law_stands", "_law_past"] (MK K) := by
 refine T.d_w_deed.F.ok An (fun _ _ _ _ h => by walk_at "LN") ?_
 ·walk_at "I2"
  obtain ⟨a, k0, ns, D, L, gs, xs, rfl, hS, h0, h1, h63, hd, sd, eL, lx, k⟩ := h
  refine ⟨_, (AD (pst 4 An (pcl T.d_w_how (Kh T) hr Al (AA (pv 0) AC)))
   (AD (pst 5 An (pec BR (AL Ad (pxi AK (pv 0) AB) AB) AB))
   (AD (pst 6 An (pcl T.d_w_spread (F5 T) hr Al (AA (pxi AK (Aa (AA (pxi AK (pv 0) (pv 1)) (AA (AL Bh (pxi AK (pv 0) (pv 1)) (AL JC AB (pv 1))) AC))) (Af Il (by rfl) T.z_int Kx (AA (pv 5) AC))) (AA AB (AA (pv 5) AC)))))
   (DG (pst 7 An (pxi AK (Aa (AA AJ (AA AJ (AA AJ (AA AJ (AA AJ (AA AJ (AA AJ AC)))))))) (AL Ad (pxi AK (pv 6) AB) AB)))
   (AD (pst 8 An (pxi AK (Aa (AA AB (AA AB (AA AB (AA AB AC))))) (AL Ad (AL EE (pv 4) AB) AB)))
   (AD (pst 9 An (AL BI (AL Ad (pxi AK (pv 6) AB) (pv 8)) (AL EE (pv 8) AB)))
   (DG (Ai (Et (ptc BR (AL Ad (pxi AK (pv 6) AB) AB) AB) (D7 (ptc ER (AQ Fo (by rfl) T.z_len Ar (AA (pv 2) AC)) AB))).pt (AE (pst 9 An (pxi AK (AQ (Ew (by rfl)) (by rfl) T.z_sorted Fk (AA (pv 2) AC)) (AL Ad (pxi AK (pv 6) AB) (AQ Fo (by rfl) T.z_len Ar (AA (pv 2) AC))))))
    AT)
   (AD (Ai (ptc BR (pv 7) AJ) (AD (pst 10 An (pxi AK (Aa (AA AB (AA AB (AA (AL Bh AB (AL Ad (pxi AK (pv 6) AB) AB)) (AA (AQ AR (by rfl) T.z_len Ar (AA (pv 3) AC)) (AA (AL Bh (AQ AR (by rfl) T.z_len Ar (AA (pv 3) AC)) AB) (AA AB (AA (Fy Dv AB) (AA (AL K3 AB AB) AC))))))))) (AL Ad (pxi AK (pv 6) AB) AB)))
     (AE (AM (BE (AA (pv 7) (AA (pv 10) (AA (AL Ad (pxi AK (pv 6) AB) AB) (AA AB AC))))))))
    AT)
   (DG (pst 11 An (AL Ad (AL EE (pxi AK (pv 6) AB) AB) AB))
   (AD (Ai (ptc FG (pv 7) AJ) (DG (pst 12 An (pxi AK (Aa (AA (AL BI (AL Ad (pxi AK (pv 6) AB) AB) AB) (AA (AL BI (AL Ad (pxi AK (pv 6) AB) AB) AB) (AA AB (AA (AL BI (AL Ad (pxi AK (pv 6) AB) AB) AB) (AA (pcl T.d_w_menu (D6 T) hr Al (AA (pxi AK (pv 6) AB) AC)) (AA AB AC))))))) (pv 11)))
     (AD (pst 13 An (pxi AK (Aa (AA (pv 12) (AA (AL BI (AL Ad (pxi AK (pv 6) AB) AB) AB) (AA (AL Ad (pxi AK (pv 6) AB) AB) (AA (AL BI (AL Ad (pxi AK (pv 6) AB) AB) AB) (AA (pcl T.d_w_menu (D6 T) hr Al (AA (pxi AK (pv 6) AB) AC)) (AA AB AC))))))) (pv 11)))
     (AE (AM (BE (AA (pv 7) (AA (pv 9) (AA (pv 12) (AA (pv 13) AC)))))))))
    AT)
   (AD (pst 14 An (AL JC (pv 9) (AL BI (AL Ad (AL EE (pv 4) AB) AB) AB)))
   (DG (pst 15 An (Aa (AA (AL BI (AL Ad (pxi AK (pv 6) AB) AB) AB) (AA (AL BI (AL Ad (pxi AK (pv 6) AB) AB) AB) AC))))
   (DG (pst 16 An (pxi AK (Aa (AA (pxi AK (pv 15) AB) (AA (AL BI (AL Ad (pxi AK (pv 6) AB) AB) AB) (AA (AL BI (pv 14) (AL Ad (pxi AK (pv 6) AB) AB)) (AA (pv 14) (AA (pcl T.d_w_menu (D6 T) hr Al (AA (pxi AK (pv 6) AB) AC)) (AA (pxi AK (pv 15) AB) AC))))))) (pv 11)))
   (AD (pst 17 An (pxi AK (Aa (AA (AL BI (AL Bh (pv 16) (AL Ad (pxi AK (pv 6) AB) AB)) AB) (AA (AL BI (AL Bh (pv 16) (AL Ad (pxi AK (pv 6) AB) AB)) AB) (AA (AL Bh (pv 14) (AL Ad (pxi AK (pv 6) AB) AB)) (AA (pv 14) (AA (pcl T.d_w_menu (D6 T) hr Al (AA (pxi AK (pv 6) AB) AC)) (AA (pxi AK (pv 15) AB) AC))))))) (pv 11)))
   (AE (AM (BE (AA (pv 7) (AA (pv 9) (AA (pv 16) (AA (pv 17) AC))))))))))))))))))))), ?_⟩
  have l40 := sd.len
  walk_at "Q"
  delta G3
  refine ⟨⟨_, hS⟩, fun H1 v s1 => ?_⟩
  walk_at "NX"
  have hS1 := s1.seq hS
  have hn : 0 < ns.length := by lia
  walk_at "Q"
  walk_at "RD"
  refine ⟨_, hS1, _, As (by lia) (by lia), _, rfl, ?_⟩
  walk_at "NX"
  generalize ns.getD (Int.toNat 0) 0 = c0 at *
  generalize decide (c0 % 2 = 0) = mx at *
  walk_at "Q"
  walk_at "RD"
  refine ⟨_, hS1, _, As (by lia) (by lia), _, hS1, _, As (by lia) (by lia), _, rfl, by decide, fun z1 H2 n2 s2 e2 => ?_⟩
  generalize ns.getD k0.toNat 0 = ck at *
  refine ⟨_, SqL.of e2, _, As (xs := [ck, ck + 977 * k0]) (by split <;> lia) (by simp only [List.length_cons, List.length_nil]; split <;> lia), ?_⟩
  refine ⟨_, 5, _, rfl, by decide, by decide, fun R H3 rs n3 s3 e3 l3 rbd => ?_⟩
  have rb := Om rbd
  clear rbd
  have r0 := rb (Int.toNat 0); have r1 := rb (Int.toNat 1); have r2 := rb (Int.toNat 2); have r3 := rb (Int.toNat 3); have r4 := rb (Int.toNat 4)
  walk_at "NX"
  have s13 := s1.trans (s2.trans s3)
  refine ⟨fun σ' H' => ∃ w, σ' = [some (.ref a), some (.int k0), some (.ref D), some (.ref L), some (.int v), some (.bl mx), some (.ref R), some (.str w), none, none, none, none, none, none, none, none, none, none] ∧ AH H3 H' ∧ Wrd w, ?_, ?_⟩
  ·walk_at "RD"
   refine ⟨by decide, fun z2 H4 n4 s4 e4 => ?_⟩
   obtain ⟨w, hw, wd⟩ := deedW (e := rs.getD 0 0 % 7) (by lia) (by lia)
   exact ⟨_, SqL.of (s4.get e3), _, As (by lia) (by lia), _, rfl, _, SqL.of e4, _, hw, _, rfl, s4, wd⟩
  rintro σ' H4 ⟨w, rfl, s4, wd⟩
  have s14 := s13.trans s4
  have e34 := s4.get e3
  clear s1 s2 s3 s4 s13 e2 e3 n2 n3
  walk_at "Q"
  walk_at "RD"
  refine ⟨by decide, fun z3 H5 n5 s5 e5 => ?_⟩
  obtain ⟨pool, hpool, hp2⟩ := atL4 (x := 5) (y := 13) (z := 45) (t := 2003) (e := v / 2 % 4) (by lia) (by lia)
  have hp3 : 0 < pool := by lia
  have e35 := s5.get e34
  refine ⟨_, SqL.of e5, _, hpool, ?_⟩
  walk_at "NX"
  walk_at "Q"
  walk_at "RD"
  refine ⟨_, SqL.of e35, _, As (by lia) (by lia), _, rfl, by lia, ?_⟩
  walk_at "NX"
  refine ⟨fun σ' H' => ∃ pl : Int, σ' = [some (.ref a), some (.int k0), some (.ref D), some (.ref L), some (.int v), some (.bl mx), some (.ref R), some (.str w), some (.int pool), some (.int pl), none, none, none, none, none, none, none, none] ∧ AH H5 H' ∧ -3000 ≤ pl ∧ pl ≤ 3000, ?_, ?_⟩
  ·have hplA : -3000 ≤ rs.getD (Int.toNat 1) 0 % pool - pool / 2 := by rcases hp2 with rfl | rfl | rfl | rfl <;> lia
   have hplB : rs.getD (Int.toNat 1) 0 % pool - pool / 2 ≤ 3000 := by rcases hp2 with rfl | rfl | rfl | rfl <;> lia
   delta Kr
   have hd5 := hd.same (s14.trans s5)
   obtain ⟨kvs, ks, eD, e2, pm, _⟩ := hd5.at_
   have lk := pm.length_eq
   rw [List.length_map] at lk
   have lkv : kvs.length = ks.length := by have := congrArg List.length e2; simpa using this
   refine ⟨_, SqL.of e35, _, As (by lia) (by lia), _, rfl, ?_⟩
   by_cases hc : rs.getD (Int.toNat 4) 0 % 2 = 1
   ·rw [if_pos (decide_eq_true hc)]
    refine ⟨kvs, eD, ?_⟩
    by_cases h0 : 0 < kvs.length
    ·rw [if_pos (decide_eq_true (by lia))]
     refine ⟨kvs, eD, ks, e2, by lia, fun Ds Hs ks' ns' ss es pm' so => ?_⟩
     have lks := pm'.length_eq
     have q1 := Int.emod_nonneg (rs.getD (Int.toNat 1) 0) (show (kvs.length : Int) ≠ 0 by lia)
     have q2 := Int.emod_lt_of_pos (rs.getD (Int.toNat 1) 0) (show (0 : Int) < kvs.length by lia)
     exact ⟨_, SqL.of (ss.get e35), _, As (by lia) (by lia), kvs, ss.get eD, _, rfl, by lia, _, SqL.of es, _, As q1 (by lia), _, rfl, ss, plB (M8 (P := fun v => -1000 ≤ v ∧ v ≤ 1000) (fun v hv => stP sd ((pm'.trans pm).mem_iff.mp hv)) (by decide) _)⟩
    ·rw [if_neg (fun z => h0 (by have := of_decide_eq_true z; lia))]
     exact ⟨AH.refl _, hplA, hplB⟩
   ·rw [if_neg (fun z => hc (of_decide_eq_true z))]
    exact ⟨AH.refl _, hplA, hplB⟩
  rintro σ' H6 ⟨pl, rfl, s6, pl0, pl1⟩
  have s16 := s14.trans (s5.trans s6)
  have e36 := s6.get e35
  have eL6 := s16.get eL
  clear s14 s5 s6 e34 e35 e5 n5
  walk_at "Q"
  walk_at "RD"
  by_cases hb : w = "back"
  ·rw [if_pos (decide_eq_true hb)]
   refine ⟨_, SqL.of e36, _, As (by lia) (by lia), _, rfl, _, .inl (SqL.of eL6), _, .inl (SqL.of eL6), by decide, fun z7 H7 n7 s7 e7 => ?_⟩
   have e37 := s7.get e36
   refine ⟨_, SqL.of e37, _, As (by lia) (by lia), _, rfl, _, SqL.of e7, Kv (by intro z hz; simp only [List.mem_cons, List.not_mem_nil, or_false] at hz; rcases hz with rfl | rfl | rfl | rfl | rfl | rfl | rfl | rfl <;> exact ⟨_, rfl, by unfold Bg; lia⟩) (by lia) (by simp only [List.length_cons, List.length_nil]; lia) fun m bm => ?_⟩
   exact ⟨_, SqL.of e37, _, As (by omega) (by omega), _, rfl, by decide, fun D8 H8 n8 s8 e8 => k D8 H8 w _ _ _ (s16.free (s7.free n8)) (s16.trans (s7.trans s8)) e8 wd bm (by unfold Bg; omega) (by unfold Bg; omega)⟩
  rw [if_neg (fun z => hb (of_decide_eq_true z))]
  walk_at "NX"
  refine ⟨fun σ' H' => ∃ kd : Int, σ' = [some (.ref a), some (.int k0), some (.ref D), some (.ref L), some (.int v), some (.bl mx), some (.ref R), some (.str w), some (.int pool), some (.int pl), none, some (.int kd), none, none, none, none, none, none] ∧ H' = H6 ∧ 0 ≤ kd ∧ kd < 6, ?_, ?_⟩
  ·walk_at "RD"
   exact ⟨_, SqL.of e36, _, As (by lia) (by lia), _, rfl, by lia, by lia⟩
  rintro σ' H7 ⟨kd, rfl, rfl, k0', k6⟩
  walk_at "Q"
  walk_at "RD"
  by_cases hp : w = "put"
  ·rw [if_neg (by simp [hp])]
   walk_at "NX"
   walk_at "RD"
   refine ⟨.inr ⟨by lia, by lia⟩, ?_⟩
   have ln0 : -6000 ≤ pl * (v / 8 % 5 - 2) ∧ pl * (v / 8 % 5 - 2) ≤ 6000 := lnB pl0 pl1 (by lia) (by lia)
   generalize pl * (v / 8 % 5 - 2) = ln at *
   refine ⟨fun σ' H' => ∃ A u1 u2, σ' = [some (.ref a), some (.int k0), some (.ref D), some (.ref L), some (.int v), some (.bl mx), some (.ref R), some (.str w), some (.int pool), some (.int pl), none, some (.int kd), none, none, some (.int ln), some (.ref A), none, none] ∧ AH H7 H' ∧ H' A = some (.lst [.int u1, .int u2]) ∧ (-2000 ≤ u1 ∧ u1 ≤ 2000) ∧ -2000 ≤ u2 ∧ u2 ≤ 2000, ?_, ?_⟩
   ·walk_at "RD"
    walk_at "AUTO"
    exact ⟨_, _, he, by lia, by lia, by lia, by lia⟩
   rintro σ' H8 ⟨A, u1, u2, rfl, s8, e8, ⟨ua, ub⟩, uc, ud⟩
   have e38 := s8.get e36
   refine ⟨fun σ' H' => ∃ ft : Int, σ' = [some (.ref a), some (.int k0), some (.ref D), some (.ref L), some (.int v), some (.bl mx), some (.ref R), some (.str w), some (.int pool), some (.int pl), none, some (.int kd), none, none, some (.int ln), some (.ref A), some (.int ft), none] ∧ AH H8 H' ∧ ft.natAbs ≤ 2000000000000000000000000000000, ?_, ?_⟩
   ·delta DB
    walk_at "AUTO"
    intro H' v vb s'
    exact ⟨_, SqL.of (s'.get e8), _, rfl, by decide, fun p H2 n2 s2 e2 => ⟨_, SqL.of e2, Nz (by intro z hz; simp only [List.mem_cons, List.not_mem_nil, or_false] at hz; rcases hz with rfl | rfl | rfl | rfl | rfl | rfl <;> exact ⟨_, rfl, by lia⟩) (by lia) (by simp only [List.length_cons, List.length_nil]; lia) fun i bi => ⟨_, rfl, s'.trans s2, bi⟩⟩⟩
   rintro σ' H9 ⟨ft, rfl, s9, fb⟩
   have e39 := s9.get e38
   have e89 := s9.get e8
   have s19 := s16.trans (s8.trans s9)
   delta DB
   walk_at "AUTO"
   intro H' v vb s'
   exact ⟨_, SqL.of (s'.get e89), _, rfl, by decide, fun p H2 n2 s2 e2 => ⟨_, SqL.of e2, Kv (by intro z hz; simp only [List.mem_cons, List.not_mem_nil, or_false] at hz; rcases hz with rfl | rfl | rfl | rfl | rfl | rfl <;> exact ⟨_, rfl, by unfold Bg; lia⟩) (by lia) (by simp only [List.length_cons, List.length_nil]; lia) fun i bi => ⟨by decide, fun D8 H8 n8 s8 e8 => k D8 H8 w _ _ _ (s19.free (s'.free (s2.free n8))) (s19.trans (s'.trans (s2.trans s8))) e8 wd (by unfold Bg; lia) (by unfold Bg; lia) bi⟩⟩⟩
  ·rw [if_pos (by simp [hp])]
   refine ⟨fun σ' H' => ∃ on : Int, σ' = [some (.ref a), some (.int k0), some (.ref D), some (.ref L), some (.int v), some (.bl mx), some (.ref R), some (.str w), some (.int pool), some (.int pl), none, some (.int kd), some (.int on), none, none, none, none, none] ∧ AH H7 H' ∧ on.natAbs ≤ 2000000000000000000000000000000, ?_, ?_⟩
   ·delta DB
    walk_at "AUTO"
    intro H' v vb s'
    exact ⟨by decide, fun p H2 n2 s2 e2 => ⟨_, SqL.of e2, Nz (by intro z hz; simp only [List.mem_cons, List.not_mem_nil, or_false] at hz; rcases hz with rfl | rfl | rfl | rfl | rfl | rfl <;> exact ⟨_, rfl, by lia⟩) (by lia) (by simp only [List.length_cons, List.length_nil]; lia) fun i bi => ⟨_, rfl, s'.trans s2, bi⟩⟩⟩
   rintro σ' H9 ⟨ft, rfl, s9, fb⟩
   have e39 := s9.get e36
   have s19 := s16.trans s9
   delta DB
   walk_at "AUTO"
   intro H' v vb s'
   exact ⟨by decide, fun p H2 n2 s2 e2 => ⟨_, SqL.of e2, Kv (by intro z hz; simp only [List.mem_cons, List.not_mem_nil, or_false] at hz; rcases hz with rfl | rfl | rfl | rfl | rfl | rfl <;> exact ⟨_, rfl, by unfold Bg; lia⟩) (by lia) (by simp only [List.length_cons, List.length_nil]; lia) fun i bi => ⟨by decide, fun D8 H8 n8 s8 e8 => k D8 H8 w _ _ _ (s19.free (s'.free (s2.free n8))) (s19.trans (s'.trans (s2.trans s8))) e8 wd (by unfold Bg; lia) (by unfold Bg; lia) bi⟩⟩⟩
theorem Dk : AN ["_law_deed_here", "_law_word", "_law_place", "_law_one", "_law_two"] ["_law_deed_here"] (AF JE) := by walk_at "SC"
noncomputable def N7 (K : PySem.W.Frag) : Sp := fun vs H Q _ => ∃ (q : Addr) (w : Str) (p x y : Int), vs = [.ref q] ∧ SqT K H q [.str w, .int p, .int x, .int y] ∧ Wrd w ∧ Bg p ∧ Bg x ∧ Bg y ∧ ∀ H', AH H H' → Q (.str (tx (Me w p x y))) H'
theorem KF (T : Tx w K mg) : Ag P w K mg base CX0 1 T.f_w_row T.fd_w_row ["_law_deed_here"] (N7 K) := by
 refine T.d_w_row.F.ok Dk (fun _ _ _ _ h => by walk_at "LN") ?_
 ·walk_at "I2"
  obtain ⟨q, w, p, x, y, rfl, hq, wd, bp, bx, by_, k⟩ := h
  refine ⟨_, (AD (HD (pv 0) (Gx (n := 4) rfl (Ao (pgn 1 Dk) (Ao (pgn 2 Dk) (Ao (pgn 3 Dk) (Ao (pgn 4 Dk) E7))))))
   (AD (Ai (Et (ptc BR (pv 1) AJ) (Et (ptc BR (pv 2) AB) (D7 (ptc BR (pv 3) AB)))).pt (AE (AM AJ))
    AT)
   (AD (Ai (Jn Fe (pv 1) (Aa (AA AJ (AA AJ AC))) (by with_unfolding_all rfl)) (AE (AM (AL AV (AL AV (pv 1) AJ) (Af Ae (by rfl) T.z_str Bf (AA (pv 2) AC)))))
    AT)
   (AE (AM (AL AV (AL AV (AL AV (AL AV (AL AV (AL AV (pv 1) AJ) (Af Ae (by rfl) T.z_str Bf (AA (pv 2) AC))) AJ) (Af Ae (by rfl) T.z_str Bf (AA (pv 3) AC))) AJ) (Af Ae (by rfl) T.z_str Bf (AA (pv 4) AC)))))))), ?_⟩
  have lw := O7 wd
  refine ⟨_, rfl, q, _, rfl, hq, rfl, _, _, rfl, _, _, rfl, _, _, rfl, _, _, rfl, rfl, ?_⟩
  dsimp only
  walk_at "Q"
  walk_at "RD"
  have b1 := bp.b40
  have b2 := bx.b40
  have b3 := by_.b40
  have d1 := BS b1
  have d2 := BS b2
  have d3 := BS b3
  have rest : ¬ (w = "back" ∧ p = 1 ∧ x = 1) → M [some (.ref q), some (.str w), some (.int p), some (.int x), some (.int y)] H := fun nb => by
   refine hM _ _ ?_
   clear hM M
   have e1 : Me w p x y = if w = "take" ∨ w = "back" then wl w ++ 32 :: dec p else wl w ++ 32 :: (dec p ++ 32 :: (dec x ++ 32 :: dec y)) := if_neg nb
   rw [e1] at k
   have lw2 : (wl w).length ≤ 4 := lw
   have ew : w = tx (wl w) := (PQ w).symm
   walk_at "Q"
   walk_at "RD"
   refine ⟨by decide, fun P1 H1 n1 s1 e1 => ⟨_, .inl (SqL.of e1), rfl, rfl, ?_⟩⟩
   have ei : inV (V.str w) [V.str "take", V.str "back"] = decide (w = "take" ∨ w = "back") := by
    show (decide ((Str.ofString "take") = w) || (decide ((Str.ofString "back") = w) || false)) = _
    rw [Bool.or_false, ← Bool.decide_or]
    exact decide_eq_decide.mpr ⟨fun z => z.imp Eq.symm Eq.symm, fun z => z.imp Eq.symm Eq.symm⟩
   rw [ei]
   by_cases ht : w = "take" ∨ w = "back"
   ·rw [if_pos (decide_eq_true ht)]
    rw [if_pos ht] at k
    rw [ew, A6, LV, Az, Az, AS, AS, AS, AS, PySem.sizeLine_eq]
    simp only [List.length_append, List.length_cons, List.length_nil]
    refine ⟨by lia, FX b1, by lia, ?_⟩
    have := k _ s1
    rw [show wl w ++ 32 :: dec p = wl w ++ [32] ++ dec p by simp] at this
    exact this
   ·rw [if_neg (fun z => ht (of_decide_eq_true z))]
    rw [if_neg ht] at k
    walk_at "NX"
    walk_at "RD"
    rw [ew, A6, LV, Az, Az, Az, AS, AS, AS, AS, AS, PySem.sizeLine_eq]
    simp only [List.length_append, List.length_cons, List.length_nil]
    refine ⟨by lia, FX b1, by lia, by lia, FX b2, ?_⟩
    rw [A6, Az, Az, AS, AS, AS, AS]
    simp only [List.length_append, List.length_cons, List.length_nil]
    refine ⟨by lia, by lia, FX b3, ?_⟩
    simp only [A6, Az, AS, List.length_append, List.length_cons, List.length_nil]
    refine ⟨by lia, ?_⟩
    have := k _ s1
    rw [show wl w ++ 32 :: (dec p ++ 32 :: (dec x ++ 32 :: dec y)) = wl w ++ [32] ++ dec p ++ [32] ++ dec x ++ [32] ++ dec y by simp only [List.append_assoc, List.cons_append, List.nil_append]] at this
    exact this
  by_cases h1 : w = "back"
  ·rw [if_pos (decide_eq_true h1)]
   by_cases h2 : p = 1
   ·rw [if_pos (decide_eq_true h2)]
    by_cases h3 : x = 1
    ·rw [if_pos (decide_eq_true h3)]
     have := k H (AH.refl _)
     unfold Me at this
     rw [if_pos ⟨h1, h2, h3⟩, PQ] at this
     exact this
    ·rw [if_neg (fun z => h3 (of_decide_eq_true z))]
     exact rest fun z => h3 z.2.2
   ·rw [if_neg (fun z => h2 (of_decide_eq_true z))]
    exact rest fun z => h2 z.2.1
  ·rw [if_neg (fun z => h1 (of_decide_eq_true z))]
   exact rest fun z => h1 z.1
theorem BX : AN ["_law_stands", "_law_deed_here", "_law_word", "_law_place", "_law_one", "_law_two", "_law_foot", "_law_head"] ["_law_stands", "_law_deed_here"] (AF Fu) := by walk_at "SC"
noncomputable def LR (K : PySem.W.Frag) : Sp := fun vs H Q _ => ∃ (d q : Addr) (w : Str) (p x y : Int) (gs : List G), vs = [.ref d, .ref q] ∧ SqT K H q [.str w, .int p, .int x, .int y] ∧ Ay H d gs ∧ ∀ D H', H D = none → AH H H' → H' D = some (.tup [.int p, .int (Ak w gs p x y).1, .int (Ak w gs p x y).2]) → Q (.ref D) H'
theorem Es (T : Tx w K mg) : Ag P w K mg base CX0 1 T.f_w_would T.fd_w_would ["_law_stands", "_law_deed_here"] (LR K) := by
 refine T.d_w_would.F.ok BX (fun _ _ _ _ h => by walk_at "LN") ?_
 ·walk_at "I2"
  obtain ⟨d, q, w, p, x, y, gs, rfl, hq, hd, k⟩ := h
  refine ⟨_, (AD (HD (pv 1) (Gx (n := 4) rfl (Ao (pgn 2 BX) (Ao (pgn 3 BX) (Ao (pgn 4 BX) (Ao (pgn 5 BX) E7))))))
   (AD (Ai (ptc BR (pv 2) AJ) (AE (AM (BE (AA (pv 3) (AA (pv 4) (AA (pv 5) AC))))))
    AT)
   (AD (HD (N4 hu (pv 0) (pv 3) (BE (AA AB (AA AB AC))) ⟨rfl, rfl, rfl, rfl⟩) (Gx (n := 2) rfl (Ao (pgn 6 BX) (Ao (pgn 7 BX) E7))))
   (AD (Ai (ptc BR (pv 2) AJ) (AE (AM (BE (AA (pv 3) (AA (AL Bh (pv 6) (pv 4)) (AA (AL Bh (pv 7) (pv 5)) AC))))))
    AT)
   (AD (Ai (ptc BR (pv 2) AJ) (AE (AM (BE (AA (pv 3) (AA (AL BI (pv 6) (pv 4)) (AA (AL BI (pv 7) (pv 5)) AC))))))
    AT)
   (AE (AM (BE (AA (pv 3) (AA (pv 6) (AA (pv 7) AC))))))))))), ?_⟩
  unfold Ak at k
  refine ⟨_, rfl, q, _, rfl, hq, rfl, _, _, rfl, _, _, rfl, _, _, rfl, _, _, rfl, rfl, ?_⟩
  dsimp only
  walk_at "Q"
  walk_at "RD"
  by_cases h1 : w = "put"
  ·rw [if_pos h1] at k
   rw [if_pos (decide_eq_true h1)]
   exact ⟨by decide, k⟩
  rw [if_neg h1] at k
  rw [if_neg (fun z => h1 (of_decide_eq_true z))]
  walk_at "NX"
  walk_at "Q"
  walk_at "RD"
  refine ⟨hd.isD, by decide, fun z0 H1 n1 s1 e1 => ?_⟩
  obtain ⟨o, gt, hn, hs⟩ := (hd.same s1).get p
  have hv : ∃ a f h, o.getD (V.ref z0) = V.ref a ∧ H1 a = some (.tup [.int f, .int h]) ∧ (AW gs p).elim 0 G.f = f ∧ (AW gs p).elim 0 G.h = h := by
   cases hg : AW gs p with
   | none => rw [hn hg]; exact ⟨z0, 0, 0, rfl, e1, rfl, rfl⟩
   | some g => obtain ⟨a, rfl, ea⟩ := hs g hg; exact ⟨a, g.f, g.h, rfl, ea, rfl, rfl⟩
  obtain ⟨a, f, h, ea, et, ef, eh⟩ := hv
  rw [ef, eh] at k
  refine ⟨o, gt, a, ea, _, SqT.of et, rfl, _, _, rfl, _, _, rfl, rfl, ?_⟩
  walk_at "NX"
  walk_at "Q"
  walk_at "RD"
  by_cases h2 : w = "lift"
  ·rw [if_pos h2] at k
   rw [if_pos (decide_eq_true h2)]
   first | exact ⟨by decide, fun D H' n s e => k D H' (s1.free n) (s1.trans s) e⟩ | exact ⟨_, rfl, _, rfl, by decide, fun D H' n s e => k D H' (s1.free n) (s1.trans s) e⟩
  rw [if_neg h2] at k
  rw [if_neg (fun z => h2 (of_decide_eq_true z))]
  walk_at "NX"
  walk_at "Q"
  walk_at "RD"
  by_cases h3 : w = "sink"
  ·rw [if_pos h3] at k
   rw [if_pos (decide_eq_true h3)]
   first | exact ⟨by decide, fun D H' n s e => k D H' (s1.free n) (s1.trans s) e⟩ | exact ⟨_, rfl, _, rfl, by decide, fun D H' n s e => k D H' (s1.free n) (s1.trans s) e⟩
  rw [if_neg h3] at k
  rw [if_neg (fun z => h3 (of_decide_eq_true z))]
  walk_at "NX"
  walk_at "RD"
  exact ⟨by decide, fun D H' n s e => k D H' (s1.free n) (s1.trans s) e⟩
theorem BO : AN ["_law_stands", "_law_past", "_law_deed_here", "_law_word", "_law_place", "_law_one", "_law_two", "_law_gate"] ["_law_stands", "_law_past", "_law_deed_here"] (AF Di) := by walk_at "SC"
noncomputable def Jo (K : PySem.W.Frag) : Sp := fun vs H Q _ => ∃ (gs : List G) (past : List (List G)) (D L q : Addr) (w : Str) (p x y : Int), vs = [.ref D, .ref L, .ref q] ∧ SqT K H q [.str w, .int p, .int x, .int y] ∧ Wa H gs past D L ∧ Wrd w ∧ ∀ H', AH H H' → Q (.str (QK (A8 w gs past p x y))) H'
theorem JD (T : Tx w K mg) : Ag P w K mg base CX0 2 T.f_w_refusal T.fd_w_refusal ["_law_stands", "_law_past", "_law_deed_here"] (Jo K) := by
 refine T.d_w_refusal.F.ok BO (fun _ _ _ _ h => by walk_at "LN") ?_
 ·walk_at "I2"
  obtain ⟨gs, past, D, L, q, w, p, x, y, rfl, hq, hw, wd, k⟩ := h
  refine ⟨_, (AD (HD (pv 2) (Gx (n := 4) rfl (Ao (pgn 3 BO) (Ao (pgn 4 BO) (Ao (pgn 5 BO) (Ao (pgn 6 BO) E7))))))
   (AD (Ai (ptc BR (pv 3) AJ) (AD (Ai (ptc KW (pv 4) AB) (AE (AM AJ))
      AT)
     (AE (AM (pxi AK (Aa (AA AJ (AA AJ AC))) (Af Il (by rfl) T.z_int Kx (AA (pec ER (pv 4) (AQ AR (by rfl) T.z_len Ar (AA (pv 1) AC))) AC))))))
    AT)
   (AD (Ai (Et (ptc BR (pv 3) AJ) (D7 (NK (TU hu (pv 4) (pv 0))))).pt (AE (AM AJ))
    AT)
   (DG (Ai (Et (ptc FG (pv 3) AJ) (D7 (NK (MG hu (pv 4) (pv 0))))).pt (AE (AM AJ))
    AT)
   (AD (pst 7 BO (pcl T.d_w_would (Es T) hr Al (AA (pv 0) (AA (pv 2) AC))))
   (AD (Ai (ptc ER (pxi BA (pv 7) AB) (pxi BA (pv 7) AB)) (AE (AM AJ))
    AT)
   (AD (Ai (ptc ER (AQ (MJ (by rfl)) (by rfl) T.z_max NC (AA (AQ E8 (by rfl) T.z_abs Jm (AA (pxi BA (pv 7) AB) AC)) (AA (AQ E8 (by rfl) T.z_abs Jm (AA (pxi BA (pv 7) AB) AC)) (AA (AQ E8 (by rfl) T.z_abs Jm (AA (pxi BA (pv 7) AB) AC)) AC)))) AB) (AE (AM AJ))
    AT)
   (AD (Ai (Et (ptc BR (pv 3) AJ) (D7 (ptc Lv (AQ Fo (by rfl) T.z_len Ar (AA (pv 0) AC)) AB))).pt (AE (AM AJ))
    AT)
   (AD (Ai (ptc Lv (AQ AR (by rfl) T.z_len Ar (AA (pv 1) AC)) AB) (AE (AM AJ))
    AT)
   (AE (AM AJ))))))))))), ?_⟩
  obtain ⟨o, gt, hn, hs⟩ := hw.dk.get p
  have ho := J0 (H := H) (D := D) hn hs
  obtain ⟨xs, eL, lL⟩ := hw.plen
  obtain ⟨kvs, eD, lD⟩ := hw.dk.len
  refine ⟨_, rfl, q, _, rfl, hq, rfl, _, _, rfl, _, _, rfl, _, _, rfl, _, _, rfl, rfl, ?_⟩
  dsimp only
  walk_at "Q"
  walk_at "RD"
  by_cases nb : w = "back"
  ·rw [if_pos (decide_eq_true nb)]
   unfold A8 Db at k
   rw [if_pos nb] at k
   by_cases h1 : p < 1
   ·rw [if_pos h1] at k
    rw [if_pos (decide_eq_true h1)]
    exact k _ (AH.refl _)
   rw [if_neg h1] at k
   rw [if_neg (fun z => h1 (of_decide_eq_true z))]
   refine ⟨by decide, fun z0 H1 n1 s1 e1 => ⟨_, .inl (SqL.of (s1.get eL)), _, SqL.of e1, ?_⟩⟩
   rw [lL]
   by_cases h2 : (past.length : Int) < p
   ·rw [if_pos h2] at k
    rw [if_pos (decide_eq_true h2)]
    exact ⟨_, rfl, k _ s1⟩
   ·rw [if_neg h2] at k
    rw [if_neg (fun z => h2 (of_decide_eq_true z))]
    exact ⟨_, rfl, k _ s1⟩
  rw [if_neg (fun z => nb (of_decide_eq_true z))]
  walk_at "NX"
  walk_at "RD"
  have hd1 := MY (gs := gs) (past := past) (p := p) (x := x) (y := y) wd nb
  refine On gt (fun hp ho' => ?_) (fun hB => ?_)
  ·rw [ho] at ho'
   rw [hd1.1 hp (of_decide_eq_true ho')] at k
   exact k _ (AH.refl _)
  refine ⟨fun σ' H' => σ' = [some (.ref D), some (.ref L), some (.ref q), some (.str w), some (.int p), some (.int x), some (.int y), none] ∧ H' = H ∧ (w = "put" → p ∉ Ab gs) ∧ (w ≠ "put" → p ∈ Ab gs), ?_, ?_⟩
  ·walk_at "RD"
   by_cases hp : w = "put"
   ·rw [if_neg (by simp [hp])]
    exact ⟨fun z => by have := hB hp; rw [ho] at this; exact of_decide_eq_false this, fun z => absurd hp z⟩
   ·rw [if_pos (by simp [hp])]
    refine ⟨o, gt, ?_⟩
    rw [ho]
    by_cases hm : p ∈ Ab gs
    ·rw [if_neg (by simp [hm])]
     exact ⟨fun z => absurd z hp, fun _ => hm⟩
    ·rw [if_pos (by simp [hm])]
     rw [hd1.2 hp hm] at k
     exact k _ (AH.refl _)
  rintro σ' H' ⟨rfl, rfl, t1, t2⟩
  have de := LF (past := past) (x := x) (y := y) wd nb t1 t2 hw.std
  rw [de] at k
  walk_at "Q"
  walk_at "RD"
  refine ⟨D, q, w, p, x, y, gs, rfl, hq, hw.dk, fun g H1 n1 s1 e1 => ?_⟩
  walk_at "NX"
  generalize (Ak w gs p x y).1 = wf at *
  generalize (Ak w gs p x y).2 = wh at *
  walk_at "RD"
  walk_at "AUTO"
  unfold DA Bz at k
  by_cases h1 : wh < wf
  ·rw [if_pos h1] at k
   rw [if_pos (decide_eq_true h1)]
   exact k _ s1
  rw [if_neg h1] at k
  rw [if_neg (fun z => h1 (of_decide_eq_true z))]
  refine ⟨_, SqT.of e1, _, rfl, _, rfl, _, SqT.of e1, _, rfl, _, rfl, _, SqT.of e1, _, rfl, _, rfl, fun m hm => ?_⟩
  have hm1 := hm 1000
  by_cases h2 : InB p ∧ InB wf ∧ InB wh
  ·have hle : m ≤ 1000 := hm1.mpr ⟨by split <;> lia, by split <;> lia, by split <;> lia⟩
   rw [if_neg (fun z => by have := of_decide_eq_true z; lia)]
   rw [if_pos h2] at k
   have tail : (∀ X, AH H' X → Q (.str (QK (if 300 ≤ past.length then some .deeds else none))) X) → ∃ x, (SqL K H1 L x ∨ SqT K H1 L x) ∧ if decide (300 ≤ (x.length : Int)) = true then Q (V.str (Str.ofString "deeds full")) H1 else Q (V.str (Str.ofString "")) H1 := fun k => by
    refine ⟨_, .inl (SqL.of (s1.get eL)), ?_⟩
    rw [lL]
    by_cases h5 : 300 ≤ past.length
    ·rw [if_pos h5] at k
     rw [if_pos (decide_eq_true (by lia))]
     exact k _ s1
    ·rw [if_neg h5] at k
     rw [if_neg (fun z => h5 (by have := of_decide_eq_true z; lia))]
     exact k _ s1
   by_cases h3 : w = "put"
   ·rw [if_pos (decide_eq_true h3)]
    refine ⟨kvs, s1.get eD, ?_⟩
    rw [lD]
    by_cases h4 : 40 ≤ gs.length
    ·rw [if_pos ⟨h3, h4⟩] at k
     rw [if_pos (decide_eq_true (by lia))]
     exact k _ s1
    ·rw [if_neg (fun z => h4 z.2)] at k
     rw [if_neg (fun z => h4 (by have := of_decide_eq_true z; lia))]
     exact tail k
   ·rw [if_neg (fun z => h3 z.1)] at k
    rw [if_neg (fun z => h3 (of_decide_eq_true z))]
    exact tail k
  ·rw [if_neg h2] at k
   rw [if_pos (decide_eq_true (by
    by_cases z : 1000 < m
    ·exact z
    ·exfalso
     apply h2
     obtain ⟨q1, q2, q3⟩ := hm1.mp (by lia)
     refine ⟨⟨?_, ?_⟩, ⟨?_, ?_⟩, ?_, ?_⟩ <;> (revert q1 q2 q3; split <;> split <;> split <;> lia)))]
   exact k _ s1
theorem Bc : AN ["_law_stands", "_law_past", "_law_deed_here", "_law_word", "_law_place", "_law_one", "_law_two", "_law_kept_here", "_law_count", "_law_gate"] ["_law_stands", "_law_past", "_law_deed_here"] (AF Gu) := by walk_at "SC"
noncomputable def Mm (K : PySem.W.Frag) : Sp := fun vs H Q _ => ∃ (gs : List G) (past : List (List G)) (D L q : Addr) (w : Str) (p x y : Int), vs = [.ref D, .ref L, .ref q] ∧ SqT K H q [.str w, .int p, .int x, .int y] ∧ Wa H gs past D L ∧ Wrd w ∧ A8 w gs past p x y = none ∧ ∀ H', Wa H' (B2 w gs past p x y) (CQ w gs past p) D L → DL D L H H' → Q .non H'
theorem Mf (T : Tx w K mg) : Ag P w K mg base CX0 2 T.f_w_kept T.fd_w_kept ["_law_stands", "_law_past", "_law_deed_here"] (Mm K) := by
 refine T.d_w_kept.F.ok Bc (fun _ _ _ _ h => by walk_at "LN") ?_
 ·walk_at "I2"
  obtain ⟨gs, past, D, L, q, w, p, x, y, rfl, hq, ⟨sd, sds, l3, hd, ⟨ds, eL, pr, hds⟩⟩, wd, hno, k⟩ := h
  refine ⟨_, (AD (HD (pv 2) (Gx (n := 4) rfl (Ao (pgn 3 Bc) (Ao (pgn 4 Bc) (Ao (pgn 5 Bc) (Ao (pgn 6 Bc) E7))))))
   (AD (Ai (ptc BR (pv 3) AJ) (AD (pst 7 Bc (pxi AK (pv 1) (AL BI (AQ AR (by rfl) T.z_len Ar (AA (pv 1) AC)) (pv 4))))
     (AD (Am (Mt PySem.F.plainAttrs_dict PySem.F.slot_dict_clear PySem.F.type_dict_clear MP (pv 0)))
     (AD (Am (FB PySem.F.plainAttrs_dict PySem.F.slot_dict_update PySem.F.type_dict_update Oq (pv 0) (AA (pv 7) AC)))
     (AD (Ei PassesOwn.never rfl (EC (by rfl) T.z_range (AA (pv 4) AC)) (pgn 8 Bc)
      (AE (Am (Mt PySem.F.plainAttrs_list PySem.F.slot_list_pop PySem.F.type_list_pop RV (pv 1)))))
     (AE OL)))))
    AT)
   (AD (pst 9 Bc (pcl T.d_w_would (Es T) hr Al (AA (pv 0) (AA (pv 2) AC))))
   (AD (Am (BD (pv 1) (Af Ks (by rfl) T.z_dict Of (AA (pv 0) AC))))
   (AE (Ai (ptc BR (pv 3) AJ) (AE (Am (N8 (pv 0) (pv 4) ⟨rfl, rfl, rfl, rfl⟩)))
    (AE (O2 hu (pv 0) (pv 4) (BE (AA (pxi BA (pv 9) AB) (AA (pxi BA (pv 9) AB) AC))) rfl)))))))), ?_⟩
  obtain ⟨as1, as2, as3⟩ := Nu wd sd sds l3 hno
  obtain ⟨kvs, ks, eD, hd2⟩ := hd.at_
  have lds := Paired.length pr
  refine ⟨_, rfl, q, _, rfl, hq, rfl, _, _, rfl, _, _, rfl, _, _, rfl, _, _, rfl, rfl, ?_⟩
  dsimp only
  walk_at "Q"
  walk_at "RD"
  by_cases hw : w = "back"
  ·rw [if_pos (decide_eq_true hw)]
   rw [Eg hw] at hno
   unfold Db at hno
   have h1 : 1 ≤ p := by
    by_cases z : p < 1
    ·rw [if_pos z] at hno; cases hno
    ·lia
   have h2 : p ≤ past.length := by
    by_cases z : (past.length : Int) < p
    ·rw [if_neg (by lia), if_pos z] at hno; cases hno
    ·lia
   have hj : past.length - p.toNat < past.length := by lia
   have ej : (((ds.map V.ref).length : Nat) : Int) - p = ((past.length - p.toNat : Nat) : Int) := by rw [List.length_map]; lia
   have eG : B2 w gs past p x y = past[past.length - p.toNat] := by
    unfold B2
    rw [if_pos hw, List.getD_eq_getElem?_getD, List.getElem?_eq_getElem hj]
    rfl
   have eP : CQ w gs past p = past.take (past.length - p.toNat) := if_pos hw
   obtain ⟨dj, hdj, kj⟩ := Paired.get pr (List.getElem?_eq_getElem hj)
   have hdD : D ≠ dj := fun z => hds (by rw [z]; exact List.mem_of_getElem? hdj)
   obtain ⟨kvj, _, eJ, _⟩ := kj.at_
   refine ⟨_, .inl (SqL.of eL), _, SqL.of eL, V.ref dj, ?_, ?_⟩
   ·rw [ej]
    exact KQ hdj
   delta RU tBM Lb PJ
   have DnL : D ≠ L := A4 eD eL fun z => by cases z
   refine ⟨PM eD, ⟨_, eD⟩, PM AG, hdD, AG, kvj, (AI hdD.symm).trans eJ, ?_⟩
   have k2 : DL D L H (upd (upd H D (.dK [])) D (.dK kvj)) := DL.updD.trans DL.updD
   have eL2 : upd (upd H D (.dK [])) D (.dK kvj) L = some (.lst (ds.map V.ref)) := (AI DnL.symm).trans ((AI DnL.symm).trans eL)
   have eD2 : upd (upd H D (.dK [])) D (.dK kvj) D = some (.dK kvj) := AG
   generalize upd (upd H D (.dK [])) D (.dK kvj) = H2 at *
   refine ⟨_, rfl, _, rfl, by lia, by lia, C1 (fun i σ H' => ∃ o, σ = [some (V.ref D), some (V.ref L), some (V.ref q), some (V.str w), some (V.int p), some (V.int x), some (V.int y), some (V.ref dj), o, none] ∧ DL L L H2 H' ∧ H' L = some (.lst ((ds.take (ds.length - i)).map V.ref))) ⟨_, rfl, DL.of (AH.refl _), by rw [Nat.sub_zero, List.take_length]; exact eL2⟩ ?_ ?_⟩
   ·rintro i σ H3 hi ⟨o, rfl, k3, e3⟩
    delta RU rPop
    have hm : (ds.take (ds.length - i)).length = ds.length - i := by rw [List.length_take]; lia
    have hlt : ds.length - i - 1 < ds.length := by lia
    refine ⟨tyV_l e3, _, e3, ⟨V.ref ds[ds.length - i - 1], ?_⟩, ⟨_, rfl⟩, k3.trans DL.updL, ?_⟩
    ·rw [List.length_map, hm, List.getElem?_map, List.getElem?_take_of_lt (by lia), List.getElem?_eq_getElem hlt]
     rfl
    ·rw [AG, List.dropLast_eq_take, List.length_map, hm, ← List.map_take, List.take_take, show min (ds.length - i - 1) (ds.length - i) = ds.length - (i + 1) by lia]
   ·rintro σ H3 ⟨o, rfl, k3, e3⟩
    have k13 : DL D L H H3 := fun a u h1 h2 e => k3 a u h2 h2 (k2 a u h1 h2 e)
    have eD3 := k3 D _ DnL DnL eD2
    have lj : ds.length - p.toNat = past.length - p.toNat := by lia
    rw [lj] at e3
    refine k H3 ⟨as1, as2, as3, ?_, ⟨ds.take (past.length - p.toNat), e3, ?_, fun z => hds (List.mem_of_mem_take z)⟩⟩ k13
    ·rw [eG]
     exact kj.copy eJ eD3 fun _ _ e => k13.tup eD eL e
    ·rw [eP]
     exact Paired.takeP (Paired.dl pr hds eD eL k13) _
  ·rw [if_neg (fun z => hw (of_decide_eq_true z))]
   walk_at "NX"
   walk_at "Q"
   walk_at "RD"
   refine ⟨D, q, w, p, x, y, gs, rfl, hq, hd, fun g H1 n1 s1 e1 => ?_⟩
   walk_at "NX"
   walk_at "Q"
   walk_at "RD"
   refine ⟨⟨_, s1.get eL⟩, kvs, s1.get eD, fun c H2 n2 s2 e2 => ⟨_, s2.get (s1.get eL), ?_, ?_⟩⟩
   ·rw [List.length_map, PySem.sizeLine_eq]; lia
   walk_at "NX"
   walk_at "RD"
   have eD2 := s2.get (s1.get eD)
   have eL2 := s2.get (s1.get eL)
   have cD : c ≠ D := (AO (s1.get eD) n2).symm
   have cL : c ≠ L := (AO (s1.get eL) n2).symm
   have DnL : D ≠ L := A4 eD eL fun z => by cases z
   have k3 : DL D L H (upd H2 L (.lst (ds.map V.ref ++ [V.ref c]))) := (DL.of (s1.trans s2)).trans DL.updL
   have eD3 : upd H2 L (.lst (ds.map V.ref ++ [V.ref c])) D = some (.dK kvs) := (AI DnL).trans eD2
   have d3 : Ay (upd H2 L (.lst (ds.map V.ref ++ [V.ref c]))) D gs := hd.copy eD eD3 fun _ _ e => k3.tup eD eL e
   have fin : ∀ H5, DL D L (upd H2 L (.lst (ds.map V.ref ++ [V.ref c]))) H5 → H5 L = some (.lst (ds.map V.ref ++ [V.ref c])) → Ay H5 D (B2 w gs past p x y) → Q V.non H5 := fun H5 k5 e5 d5 => by
    have k15 := k3.trans k5
    obtain ⟨kv5, _, eD5, _⟩ := d5.at_
    refine k H5 ⟨as1, as2, as3, d5, ⟨ds ++ [c], by rw [List.map_append]; exact e5, ?_, fun z => ?_⟩⟩ k15
    ·rw [C6 hw]
     exact Paired.snoc (Paired.dl pr hds eD eL k15) (hd.copy eD (k5 c _ cD cL ((AI cL).trans e2)) fun _ _ e => k15.tup eD eL e)
    ·rcases List.mem_append.mp z with z | z
     ·exact hds z
     ·exact cD (List.mem_singleton.mp z).symm
   by_cases h2 : w = "take"
   ·rw [if_pos (decide_eq_true h2)]
    rw [Ee h2] at hno
    unfold C2 at hno
    have hp : p ∈ Ab gs := by
     by_cases z : p ∈ Ab gs
     ·exact z
     ·rw [if_neg z] at hno; cases hno
    obtain ⟨gg, hgg, hgp⟩ := List.mem_map.mp hp
    subst hgp
    obtain ⟨kv, a, z1, z2, z3⟩ := d3.pop hgg
    refine ⟨d3.isD, kv, z1, .inl gg.p, rfl, ⟨_, z2⟩, fin _ DL.updD ((AI DnL.symm).trans AG) ?_⟩
    rw [Eo h2]
    exact z3
   ·rw [if_neg (fun z => h2 (of_decide_eq_true z))]
    have e13 := k3.trans (DL.of (AH.refl _))
    have eg : upd H2 L (.lst (ds.map V.ref ++ [V.ref c])) g = some (.tup [.int p, .int (Ak w gs p x y).1, .int (Ak w gs p x y).2]) := (AI (A4 (s2.get e1) eL2 fun z => by cases z)).trans (s2.get e1)
    refine ⟨_, SqT.of eg, _, rfl, _, SqT.of eg, _, rfl, by decide, fun t H4 n4 s4 e4 => ?_⟩
    obtain ⟨kv, kv', z1, z2, z3⟩ := (d3.same s4).dput (x := p) sd e4
    refine ⟨_, z2, fin _ ((DL.of s4).trans DL.updD) ((AI DnL.symm).trans (s4.get AG)) ?_⟩
    rw [De hw h2]
    exact z3
theorem E2 : AN ["_law_stands", "_law_past", "_law_deed_here", "_law_written", "_law_refused", "_law_gate"] ["_law_stands", "_law_past", "_law_deed_here"] (AF Js) := by walk_at "SC"
noncomputable def M0 (K : PySem.W.Frag) : Sp := fun vs H Q _ => ∃ (gs : List G) (past : List (List G)) (D L q : Addr) (w : Str) (p x y : Int), vs = [.ref D, .ref L, .ref q] ∧ SqT K H q [.str w, .int p, .int x, .int y] ∧ Wa H gs past D L ∧ Wrd w ∧ Bg p ∧ Bg x ∧ Bg y ∧ ∀ H', Wa H' (Fh w gs past p x y).1 (Fh w gs past p x y).2 D L → DL D L H H' → Q (.str (Kd w gs past p x y)) H'
theorem Jv (T : Tx w K mg) : Ag P w K mg base CX0 3 T.f_w_due T.fd_w_due ["_law_stands", "_law_past", "_law_deed_here"] (M0 K) := by
 refine T.d_w_due.F.ok E2 (fun _ _ _ _ h => by walk_at "LN") ?_
 ·walk_at "I2"
  obtain ⟨gs, past, D, L, q, w, p, x, y, rfl, hq, hw, wd, bp, bx, by_, k⟩ := h
  refine ⟨_, (AD (pst 3 E2 (M5 (Jn Fe (pxi BA (pv 2) AB) (Aa (AA AJ (AA AJ AC))) (by with_unfolding_all rfl)) (Du M4 (pv 2) (ED AB) (ED AB)) (Du M4 (pv 2) (ED AB) GZ)))
   (AD (Ai (ptc ER (AQ (MF (by rfl)) (by rfl) T.z_max NC (AA (Cc rfl (⟨rfl, by decide +kernel, by decide +kernel, by decide +kernel, rfl, by decide +kernel, by with_unfolding_all rfl, by rfl, by rfl, by rfl⟩ : Aq _ _ "_law_part" [] []) (LK (pv 3)) (fun _ _ _ _  => (AQ E8 (by rfl) T.z_abs Jm (AA (pv 0) AC))) (fun _ _ _ _ => B8)) AC)) AB) (AE (AM AJ))
    AT)
   (AD (pst 4 E2 (pcl T.d_w_refusal (JD T) hr Al (AA (pv 0) (AA (pv 1) (AA (pv 2) AC)))))
   (AD (Ai (ptc FG (pv 4) AJ) (AE (AM (AL AV AJ (pv 4))))
    AT)
   (AD (pst 5 E2 (pcl T.d_w_would (Es T) hr Al (AA (pv 0) (AA (pv 2) AC))))
   (AD (Am (pcl T.d_w_kept (Mf T) hr Al (AA (pv 0) (AA (pv 1) (AA (pv 2) AC)))))
   (AD (Ai (ptc BR (pxi BA (pv 2) AB) AJ) (AE (AM (AL AV AJ (Af Ae (by rfl) T.z_str Bf (AA (AQ AR (by rfl) T.z_len Ar (AA (pv 1) AC)) AC)))))
    AT)
   (AE (AM (AL AV (AL AV (AL AV (AL AV (AL AV AJ (Af Ae (by rfl) T.z_str Bf (AA (pxi BA (pv 5) AB) AC))) AJ) (Af Ae (by rfl) T.z_str Bf (AA (pxi BA (pv 5) AB) AC))) AJ) (Af Ae (by rfl) T.z_str Bf (AA (pxi BA (pv 5) AB) AC)))))))))))), ?_⟩
  walk_at "Q"
  walk_at "RD"
  refine ⟨_, hq, _, rfl, by decide, fun P1 H1 n1 s1 e1 => ⟨_, .inl (SqL.of e1), rfl, rfl, ?_⟩⟩
  have ei : inV (V.str w) [V.str "take", V.str "back"] = decide (w = "take" ∨ w = "back") := by
   show (decide ((Str.ofString "take") = w) || (decide ((Str.ofString "back") = w) || false)) = _
   rw [Bool.or_false, ← Bool.decide_or]
   exact decide_eq_decide.mpr ⟨fun z => z.imp Eq.symm Eq.symm, fun z => z.imp Eq.symm Eq.symm⟩
  rw [ei]
  have rest : ∀ (A : Addr) (H2 : Hp) (ns : List Int), AH H H2 → SqT K H2 A (ns.map V.int) → ns ≠ [] → ns.length ≤ 4 → (EH w p x y ↔ ∃ n ∈ ns, 999999999 < n.natAbs) → M [some (.ref D), some (.ref L), some (.ref q), some (.ref A), none, none] H2 := fun A H2 ns s2 hA hne l4 hb => by
   refine hM _ _ ?_
   clear hM M ei
   have hq2 := s2.tup hq
   have hw2 := hw.same s2
   walk_at "Q"
   delta PD O8
   refine ⟨⟨_, hA⟩, fun D1 nD1 => ?_⟩
   have nl : (ns.map V.int).length ≤ sizeLine := by rw [List.length_map, PySem.sizeLine_eq]; lia
   refine FH nl nD1 hA OH (fun v H3 R hv s3 hR => ?_) fun H3 s3 e3 => ?_
   ·obtain ⟨n, _, rfl⟩ := List.mem_map.mp hv
    walk_at "RD"
    exact hR
   have ea : (ns.map V.int).map OH = (ns.map NG).map V.int := by rw [List.map_map, List.map_map]; rfl
   rw [ea] at e3
   refine ⟨ns.map NG, SqL.of e3, fun z => hne (List.map_eq_nil_iff.mp z), fun m hm hx => ?_⟩
   have hbm : EH w p x y ↔ 999999999 < m := hb.trans ⟨fun ⟨n, hn, hl⟩ => by
    have := hx _ (List.mem_map.mpr ⟨n, hn, rfl⟩)
    unfold NG at this
    split at this <;> lia, fun h => by
    obtain ⟨n, hn, rfl⟩ := List.mem_map.mp hm
    refine ⟨n, hn, ?_⟩
    unfold NG at h
    split at h <;> lia⟩
   have s03 := s2.trans s3
   have hw3 := hw.same s03
   have hq3 := s03.tup hq
   unfold Kd Fh at k
   by_cases hbig : EH w p x y
   ·rw [if_pos (decide_eq_true (hbm.mp hbig))]
    simp only [if_pos hbig] at k
    exact k _ hw3 (DL.of s03)
   rw [if_neg (fun z => hbig (hbm.mpr (of_decide_eq_true z)))]
   simp only [if_neg hbig] at k
   clear hbm hx hm hb hw2 hq2 e3 hA ea nl
   walk_at "NX"
   walk_at "Q"
   refine ⟨_, rfl, _, rfl, _, rfl, gs, past, D, L, q, w, p, x, y, rfl, hq3, hw3, wd, fun H4 s4 => ?_⟩
   walk_at "NX"
   have s04 := s03.trans s4
   have hw4 := hw.same s04
   have hq4 := s04.tup hq
   clear s03 hw3 hq3 s4
   walk_at "Q"
   walk_at "RD"
   cases hE : A8 w gs past p x y with
   | some e =>
    rw [hE] at k
    show if (!decide (OV e = Str.ofString "")) = true then _ else _
    rw [if_pos (by rw [decide_eq_false (Tc e)]; rfl)]
    refine ⟨by cases e <;> decide +kernel, ?_⟩
    rw [show Str.ofString "refused: " ++ QK (some e) = LH e from O5 e]
    rw [Lw hE] at k
    exact k _ hw4 (DL.of s04)
   | none =>
    rw [hE] at k
    rw [if_neg (by decide)]
    rw [NW hE] at k
    dsimp only at k
    walk_at "NX"
    walk_at "Q"
    walk_at "RD"
    refine ⟨D, q, w, p, x, y, gs, rfl, hq4, hw4.dk, fun g H5 n5 s5 e5 => ?_⟩
    walk_at "NX"
    have s05 := s04.trans s5
    have hw5 := hw.same s05
    have hq5 := s05.tup hq
    clear s04 hw4 hq4 s5
    walk_at "Q"
    walk_at "RD"
    refine ⟨gs, past, D, L, q, w, p, x, y, rfl, hq5, hw5, wd, hE, fun H6 hw6 dl => ?_⟩
    walk_at "NX"
    obtain ⟨kvs, eD, _⟩ := hw5.dk.len
    obtain ⟨xs5, eL5, _⟩ := hw5.plen
    obtain ⟨kvs6, eD6, _⟩ := hw6.dk.len
    obtain ⟨xs6, eL6, l6⟩ := hw6.plen
    have kp := Kept.dl (ow := []) eD eL5 dl ⟨_, eD6⟩ ⟨_, eL6⟩
    have hq6 := kp.sqt hq5
    have e6 := kp.tup _ _ e5
    have c1 := bp.b40
    obtain ⟨c2, c3⟩ := Oz (w := w) (p := p) hw.std bx by_
    have d1 := BS c1
    have d2 := BS c2
    have d3 := BS c3
    walk_at "RD"
    refine ⟨_, hq6, _, rfl, rfl, ?_⟩
    by_cases hk : w = "back"
    ·rw [if_pos (by rw [hk]; exact decide_eq_true rfl)]
     have ln : ((CQ w gs past p).length : Int).natAbs ≤ 10 ^ 40 := Ot hw6.len
     refine ⟨_, .inl (SqL.of eL6), ?_⟩
     rw [l6]
     refine ⟨FX ln, ?_⟩
     have d4 := BS ln
     rw [A6, FT, Az, AS, AS, PySem.sizeLine_eq]
     refine ⟨by show 6 + _ ≤ _; lia, ?_⟩
     have := k _ hw6 ((DL.of s05).trans dl)
     rw [if_pos hk] at this
     exact this
    ·rw [if_neg (fun z => hk (V.str.inj (of_decide_eq_true z)))]
     refine ⟨_, SqT.of e6, _, rfl, _, rfl, FX c1, ?_⟩
     rw [A6, OK, LV, Az, Az, AS, AS, AS, AS, PySem.sizeLine_eq]
     simp only [List.length_append, List.length_cons, List.length_nil]
     refine ⟨by lia, by lia, _, SqT.of e6, _, rfl, _, rfl, FX c2, ?_⟩
     rw [A6, Az, Az, AS, AS, AS]
     simp only [List.length_append, List.length_cons, List.length_nil]
     refine ⟨by lia, by lia, _, SqT.of e6, _, rfl, _, rfl, FX c3, ?_⟩
     rw [A6, Az, AS, AS]
     simp only [List.length_append, List.length_cons, List.length_nil]
     refine ⟨by lia, ?_⟩
     have := k _ hw6 ((DL.of s05).trans dl)
     rw [if_neg hk] at this
     rw [show Ex p (Ak w gs p x y).1 (Ak w gs p x y).2 = [103, 97, 116, 101, 32] ++ dec p ++ [32] ++ dec (Ak w gs p x y).1 ++ [32] ++ dec (Ak w gs p x y).2 by
      show [103, 97, 116, 101] ++ ([32] ++ (dec p ++ ([32] ++ (dec (Ak w gs p x y).1 ++ ([32] ++ dec (Ak w gs p x y).2))))) = _
      simp only [List.append_assoc, List.cons_append, List.nil_append]] at this
     exact this
  clear hM
  by_cases ht : w = "take" ∨ w = "back"
  ·rw [if_pos (decide_eq_true ht)]
   refine ⟨q, _, rfl, s1.tup hq, by show ¬ (1 = 0 ∧ 2 = 4); decide, fun A nA => rest A _ [p] (s1.trans (Ac nA)) (SqT.of AG) (by simp) (by simp) ⟨fun z => ?_, fun ⟨n, hn, hl⟩ => ?_⟩⟩
   ·rcases z with z | ⟨z1, z2, _⟩
    ·exact ⟨p, by simp, z⟩
    ·exact (ht.elim z1 z2).elim
   ·rw [List.mem_singleton.mp hn] at hl
    exact .inl hl
  ·rw [if_neg (fun z => ht (of_decide_eq_true z))]
   refine ⟨q, _, rfl, s1.tup hq, by show ¬ (1 = 0 ∧ 4 = 4); decide, fun A nA => rest A _ [p, x, y] (s1.trans (Ac nA)) (SqT.of AG) (by simp) (by simp) ⟨fun z => ?_, fun ⟨n, hn, hl⟩ => ?_⟩⟩
   ·rcases z with z | ⟨_, _, z | z⟩
    ·exact ⟨p, by simp, z⟩
    ·exact ⟨x, by simp, z⟩
    ·exact ⟨y, by simp, z⟩
   ·simp only [List.mem_cons, List.not_mem_nil, or_false] at hn
    rcases hn with rfl | rfl | rfl
    ·exact .inl hl
    ·exact .inr ⟨fun z => ht (.inl z), fun z => ht (.inr z), .inl hl⟩
    ·exact .inr ⟨fun z => ht (.inl z), fun z => ht (.inr z), .inr hl⟩
theorem Hn : AN ["_law_stands"] ["_law_stands"] (AF DT) := by walk_at "SC"
noncomputable def Hv (K : PySem.W.Frag) : Sp := fun vs H Q _ => ∃ (d : Addr) (gs : List G), vs = [.ref d] ∧ Ay H d gs ∧ Std gs ∧ ∀ D H' as, H D = none → AH H H' → H' D = some (.lst (as.map V.ref)) → Ax H' as gs → Q (.ref D) H'
theorem Hm (T : Tx w K mg) : Ag P w K mg base CX0 1 T.f_w_standing T.fd_w_standing ["_law_stands"] (Hv K) := by
 refine T.d_w_standing.F.ok Hn (fun _ _ _ _ h => by walk_at "LN") ?_
 ·walk_at "I2"
  obtain ⟨d, gs, rfl, hd, sd, k⟩ := h
  refine ⟨_, (AE (AM (Cc rfl (⟨rfl, by decide +kernel, by decide +kernel, by decide +kernel, rfl, by decide +kernel, by with_unfolding_all rfl, by rfl, by rfl, by rfl⟩ : Aq _ _ "_law_place" ["_law_stands"] [0]) (CL (AQ (Ew (by rfl)) (by rfl) T.z_sorted Fk (AA (pv 0) AC))) (fun _ _ _ _  => (BE (AA (pv 0) (AA (NY (DI (K := K) rfl) (Li (hu) (pv 1) (pv 0) (fun _ _ => rfl)) AB (fun _ _ => rfl)) (AA (NY (DI (K := K) rfl) (Li (hu) (pv 1) (pv 0) (fun _ _ => rfl)) AB (fun _ _ => rfl)) AC))))) (fun _ _ _ _ => B8)))), ?_⟩
  obtain ⟨kvs, ks, e, e2, pm, q⟩ := hd.at_
  delta Dh Kr
  have lk := pm.length_eq
  rw [List.length_map] at lk
  refine ⟨kvs, e, ks, e2, by have := sd.len; lia, fun D H1 ks' n1 s1 e1 pm' so => ⟨⟨_, SqL.of e1⟩, fun D2 n2 => ?_⟩⟩
  have ek : ks' = Ab gs := HS so (Hl sd.asc) (pm'.trans pm)
  subst ek
  refine Ku (SqL.of e1) n2 (by have := sd.len; lia) (fun g H2 R hg s2 hR => ?_) fun H2 as s2 e3 ga => k D2 H2 as (s1.free n2) (s1.trans s2) e3 ga
  obtain ⟨a, z1, z2⟩ := q g hg
  have z3 := s2.get (s1.get z2)
  have gt : Dn H2 d (V.int g.p) (some (.ref a)) := by
   have := Dn.k (H := H2) (k := .inl g.p) (s2.get (s1.get e))
   rw [z1] at this
   exact this
  delta Dm Option.join_some
  refine ⟨_, gt, _, rfl, _, SqT.of z3, _, rfl, _, gt, _, rfl, _, SqT.of z3, _, rfl, by decide, hR⟩
theorem K2 : AN ["_law_stands"] ["_law_stands"] (AF Fp) := by walk_at "SC"
theorem MU {s y : List Nat} {c : Nat} : ∀ {r : List (List Nat)}, BU s ((c :: y) :: r) = c :: BU s (y :: r)
 | [] => rfl
 | z :: r => by rw [BV (ys := z :: r) (by simp), BV (ys := z :: r) (by simp)]; rfl
theorem KR : ∀ {ys : List (List Nat)} {a : List Nat}, BU [] (a :: ys.map (32 :: ·)) = BU [32] (a :: ys)
 | [], _ => rfl
 | y :: r, a => by
  rw [List.map_cons, BV (ys := (32 :: y) :: r.map _) (by simp), BV (s := [32]) (ys := y :: r) (by simp), KR, MU]
  rfl
theorem J4 : ∀ {ys : List (List Nat)} {a : List Nat}, a ++ BU [] ys = BU [] (a :: ys)
 | [], a => by show a ++ [] = a; rw [List.append_nil]
 | y :: r, a => by rw [BV (ys := y :: r) (by simp)]; rfl
theorem Ik : ∀ ys : List (List Nat), (BU [] ys).length = (ys.map List.length).sum
 | [] => rfl
 | y :: r => by rw [← J4, List.length_append, Ik r, List.map_cons, List.sum_cons]
noncomputable def LO (K : PySem.W.Frag) : Sp := fun vs H Q _ => ∃ (d : Addr) (gs : List G), vs = [.ref d] ∧ Ay H d gs ∧ Std gs ∧ ∀ H', AH H H' → Q (.str (tx (HL gs))) H'
theorem Gb (T : Tx w K mg) : Ag P w K mg base CX0 2 T.f_w_shown T.fd_w_shown ["_law_stands"] (LO K) := by
 refine T.d_w_shown.F.ok K2 (fun _ _ _ _ h => by walk_at "LN") ?_
 ·walk_at "I2"
  obtain ⟨d, gs, rfl, hd, sd, k⟩ := h
  refine ⟨_, (AE (AM (AL AV AJ (FB PySem.F.plainAttrs_str PySem.F.slot_str_join PySem.F.type_str_join GU AJ (AA (Cc rfl (⟨rfl, by decide +kernel, by decide +kernel, by decide +kernel, rfl, by decide +kernel, by with_unfolding_all rfl, by rfl, by rfl, by rfl⟩ : Aq _ _ "_law_gate" [] []) (CL (pcl T.d_w_standing (Hm T) hr Al (AA (pv 0) AC))) (fun _ _ _ _  => (AL AV (AL AV (AL AV (AL AV (AL AV AJ (Af Ae (by rfl) T.z_str Bf (AA (pxi (DI (K := K) rfl) (pv 0) AB) AC))) AJ) (Af Ae (by rfl) T.z_str Bf (AA (pxi (DI (K := K) rfl) (pv 0) AB) AC))) AJ) (Af Ae (by rfl) T.z_str Bf (AA (pxi (DI (K := K) rfl) (pv 0) AB) AC)))) (fun _ _ _ _ => B8)) AC))))), ?_⟩
  have okg := sd.ok
  have l40 := sd.len
  have lw : ∀ g ∈ gs, (A9 g).length ≤ 128 := fun g hg => by
   have o := okg g hg
   have := BS (Ed ⟨o.p0, o.p1⟩)
   have := BS (n := g.f) (Ed ⟨o.f0, Int.le_trans o.fh o.h1⟩)
   have := BS (n := g.h) (Ed ⟨Int.le_trans o.f0 o.fh, o.h1⟩)
   show (dec g.p ++ ([58] ++ (dec g.f ++ ([58] ++ dec g.h)))).length ≤ _
   simp only [List.length_append, List.length_cons, List.length_nil]
   lia
  delta tBM Go Dh
  refine ⟨tyS, d, gs, rfl, hd, sd, fun A H1 as n1 s1 e1 ga => ⟨_, rfl, ⟨_, SqL.of e1⟩, fun D nD => ?_⟩⟩
  refine IN (F := fun _ v g => v = V.str (tx (32 :: A9 g))) (fun _ _ _ _ _ h => h) (fun _ _ _ _ _ _ h => h) (SqL.of e1) ga nD (by lia) ?_ ?_
  ·intro v g H3 R hg s3 ev hR
   have o := okg g hg
   have b1 := Ed ⟨o.p0, o.p1⟩
   have b2 := Ed (n := g.f) ⟨o.f0, Int.le_trans o.fh o.h1⟩
   have b3 := Ed (n := g.h) ⟨Int.le_trans o.f0 o.fh, o.h1⟩
   have d1 := BS b1
   have d2 := BS b2
   have d3 := BS b3
   walk_at "RD"
   refine ⟨_, SqT.of ev, _, rfl, _, rfl, FX b1, ?_⟩
   rw [A6, LV, PB, Az, Az, AS, AS, AS, AS, PySem.sizeLine_eq]
   simp only [List.length_append, List.length_cons, List.length_nil]
   refine ⟨by lia, by lia, _, SqT.of ev, _, rfl, _, rfl, FX b2, ?_⟩
   rw [A6, Az, Az, AS, AS, AS]
   simp only [List.length_append, List.length_cons, List.length_nil]
   refine ⟨by lia, by lia, _, SqT.of ev, _, rfl, _, rfl, FX b3, ?_⟩
   rw [A6, Az, AS, AS]
   simp only [List.length_append, List.length_cons, List.length_nil]
   refine ⟨by lia, hR _ _ (AH.refl _) (congrArg (fun z => V.str (tx z)) ?_)⟩
   simp only [List.append_assoc, List.singleton_append, List.cons_append, List.nil_append]
   rfl
  ·intro H3 ys s3 e3 pr
   have ey : ys = tvs (gs.map fun g => 32 :: A9 g) := Fv pr
   subst ey
   have h1 : ((gs.map fun g => 32 :: A9 g).map List.length).sum ≤ 129 * ((gs.map fun g => 32 :: A9 g).map List.length).length := K1 fun x hx => by
    obtain ⟨y, hy, rfl⟩ := List.mem_map.mp hx
    obtain ⟨g, hg, rfl⟩ := List.mem_map.mp hy
    have := lw g hg
    rw [List.length_cons]
    lia
   rw [List.length_map, List.length_map] at h1
   have h2 := Ik (gs.map fun g => 32 :: A9 g)
   refine ⟨[], rfl, gs.map (fun g => 32 :: A9 g), SqL.of e3, by show _ + _ * 0 ≤ _; lia, ?_, ?_⟩
   ·rw [JH, AS, AS, h2, PySem.sizeLine_eq]; show 5 + _ ≤ _; lia
   ·have e : [103, 97, 116, 101, 115] ++ BU [] (gs.map fun g => 32 :: A9 g) = HL gs := by
     rw [J4, show (gs.map fun g => 32 :: A9 g) = (gs.map A9).map (32 :: ·) by rw [List.map_map]; rfl, KR]; rfl
    rw [JH, Az, e]
    exact k _ (s1.trans s3)
theorem BM : AN ["_law_script", "_law_stands", "_law_past", "_law_asked", "_law_due_here", "_law_how_here", "_law_count", "_law_deed_here", "_law_k", "_law_handed", "_law_found", "_law_none"] ["_law_script"] (AF Le) := by walk_at "SC"
theorem MR (n : Int) : Str.ofString "deeds " ++ Str.ofString (toString n) = tx (Cf n) := by rw [A6, FT, Az]; rfl
theorem MA (n : Int) (h : n.natAbs ≤ 300) : (Str.ofString "deeds ").length + (Str.ofString (toString n)).length ≤ sizeLine := by
 have := BS (n := n) (by lia)
 rw [A6, FT, AS, AS, PySem.sizeLine_eq]; simp only [List.length_cons, List.length_nil]; lia
theorem NL (rs : List Rw) : GR (rs ++ [.deeds, .gates]) = GR rs ++ [V.str (tx (Cf ((sto rs).2.length : Int))), V.str (tx (HL (sto rs).1))] := by
 unfold GR
 rw [show rs ++ [Rw.deeds, Rw.gates] = (rs ++ [.deeds]) ++ [.gates] by simp, Dr, Dr, Df, List.map_append, List.map_append, List.append_assoc]; rfl
noncomputable def K6 (K : PySem.W.Frag) : Sp := fun vs H Q _ => ∃ (a : Addr) (ns : List Int), vs = [.ref a] ∧ SqL K H a (ns.map V.int) ∧ ns.length ≤ 63 ∧ ∀ H', Q (.bl true) H'
theorem Qn (T : Tx w K mg) : Ag P w K mg base CX0 10 T.f_law T.fd_law ["_law_script"] (K6 K) := by
 refine T.d_law.F.ok BM (fun _ _ _ _ h => by walk_at "LN") ?_
 ·walk_at "I2"
  obtain ⟨a, ns, rfl, hS, hl, k⟩ := h
  refine ⟨_, (AD (pst 1 BM Nv)
   (AD (pst 2 BM (Aa AC))
   (AD (pst 3 BM (Aa (AA AJ AC)))
   (AD (pst 4 BM (Aa (AA AJ AC)))
   (AD (pst 5 BM (AL EE (pcl T.d_w_how (Kh T) hr Al (AA (pv 0) AC)) AB))
   (AD (Ei PassesOwn.never rfl (EC (by rfl) T.z_range (AA (pxi AK (Aa (AA AB (AA AB (AA AB AC)))) (AL Ad (pv 5) AB)) AC)) (pgn 6 BM)
    (AD (pst 7 BM (BE (AA AJ (AA (AL Bh AB (pv 6)) (AA (Fy Dv AB) (AA AB AC))))))
     (AD (Ai (Et (ptc BR (AL Ad (pv 5) AB) AB) (D7 (ptc ER (pv 6) AB))).pt (AE (pst 7 BM (BE (AA AJ (AA AB (AA AB (AA AB AC)))))))
      AT)
     (AD (Am (BD (pv 3) (pcl T.d_w_row (KF T) hr Al (AA (pv 7) AC))))
     (AE (Am (BD (pv 4) (pcl T.d_w_due (Jv T) hr Al (AA (pv 1) (AA (pv 2) (AA (pv 7) AC)))))))))))
   (AD (Ei PassesOwn.never rfl (ML (by rfl) T.z_range (AA AB (AA (AQ AR (by rfl) T.z_len Ar (AA (pv 0) AC)) AC))) (pgn 8 BM)
    (AD (pst 7 BM (pcl T.d_w_deed (Mj T) hr Al (AA (pv 0) (AA (pv 8) (AA (pv 1) (AA (pv 2) AC))))))
     (AD (Am (BD (pv 3) (pcl T.d_w_row (KF T) hr Al (AA (pv 7) AC))))
     (AD (Am (BD (pv 4) (pcl T.d_w_due (Jv T) hr Al (AA (pv 1) (AA (pv 2) (AA (pv 7) AC))))))
     (AE (Ai (ptc BR (AL Ad (pv 8) AB) AB) (AD (Am (BD (pv 3) AJ))
       (AE (Am (BD (pv 4) (pcl T.d_w_shown (Gb T) hr Al (AA (pv 1) AC))))))
      AT))))))
   (AD (pst 3 BM (AL E5 (pv 3) (Aa (AA AJ (AA AJ AC)))))
   (AD (pst 4 BM (AL E5 (pv 4) (Aa (AA (AL AV AJ (Af Ae (by rfl) T.z_str Bf (AA (AQ AR (by rfl) T.z_len Ar (AA (pv 2) AC)) AC))) (AA (pcl T.d_w_shown (Gb T) hr Al (AA (pv 1) AC)) AC)))))
   (AD (pst 9 BM (Af HG (by rfl) T.z_list GV (AA (pv 3) AC)))
   (AD (pst 10 BM (pcl T.d_answers (G7 T) hr Al (AA (pv 9) AC)))
   (AD (Ai (HX (Km (Ej (AQ Do (by rfl) T.z_isinstance Cw (AA (pv 10) (AA (Ji (v := .ty "list") (by rfl) T.z_list GV rfl) AC))))) (HX (ptc FG (AQ AR (by rfl) T.z_len Ar (AA (pv 10) AC)) (AQ AR (by rfl) T.z_len Ar (AA (pv 4) AC))) (HQ (ptc FG (AQ AR (by rfl) T.z_len Ar (AA (pv 9) AC)) (AQ AR (by rfl) T.z_len Ar (AA (pv 3) AC)))))).pt (AE (AM NO))
    AT)
   (AD (Ei PassesOwn.never rfl (EC (by rfl) T.z_range (AA (AQ AR (by rfl) T.z_len Ar (AA (pv 4) AC)) AC)) (pgn 8 BM)
    (AE (Ai (HX (Km (Ej (AQ Do (by rfl) T.z_isinstance Cw (AA (pxi AK (pv 10) (pv 8)) (AA (Ji (v := .ty "str") (by rfl) T.z_str Bf rfl) AC))))) (HX (ptc FG (pxi AK (pv 10) (pv 8)) (pxi AK (pv 4) (pv 8))) (HQ (ptc FG (pxi AK (pv 9) (pv 8)) (pxi AK (pv 3) (pv 8)))))).pt (AE (AM NO))
      AT)))
   (AD (pst 11 BM (pcl T.d_answers (G7 T) hr Al (AA (Aa AC) AC)))
   (AE (AM (S9 (AQ Do (by rfl) T.z_isinstance Cw (AA (pv 11) (AA (Ji (v := .ty "list") (by rfl) T.z_list GV rfl) AC))) (RY (pec BR (AQ AR (by rfl) T.z_len Ar (AA (pv 11) AC)) AB))))))))))))))))))), ?_⟩
  walk_at "Q"
  walk_at "RD"
  intro D H1 n1 s1 e1
  walk_at "NX"
  walk_at "Q"
  walk_at "RD"
  refine ⟨by decide, fun L H2 n2 s2 e2 => ?_⟩
  walk_at "NX"
  walk_at "Q"
  walk_at "RD"
  refine ⟨by decide, fun A H3 n3 s3 e3 => ?_⟩
  walk_at "NX"
  walk_at "Q"
  walk_at "RD"
  refine ⟨by decide, fun U H4 n4 s4 e4 => ?_⟩
  walk_at "NX"
  have hS4 := (s1.trans (s2.trans (s3.trans s4))).seq hS
  walk_at "Q"
  delta G3
  refine ⟨⟨_, hS4⟩, fun H5 v s5 => ?_⟩
  walk_at "NX"
  have a0 : AU K H5 a D L A U (ns.map V.int) [.gates] [.gates] ([], []) := by
   have e14 := (s2.trans (s3.trans s4)).get e1
   have e24 := (s3.trans s4).get e2
   have e34 := s4.get e3
   have nU : H3 U = none := n4
   refine AU.same ⟨Scr.of hS (fun c hc => ?_) (s1.trans (s2.trans (s3.trans s4))), e34, e4, ⟨⟨List.Pairwise.nil, fun g h => absurd h (by simp), by decide⟩, fun z h => absurd h (by simp), by decide, Ay.nil e14, ⟨[], e24, .nil, by simp⟩⟩, fun r hr => (by rw [List.mem_singleton.mp hr]; trivial), AO e3 n4, (AO e2 n3).symm, (AO (s3.get e2) n4).symm⟩ s5
   simp only [List.mem_cons, List.not_mem_nil, or_false] at hc
   rcases hc with rfl | rfl | rfl
   ·exact s1.free (s2.free n3)
   ·exact s1.free (s2.free (s3.free n4))
   ·exact s1.free n2
  clear s1 s2 s3 s4 s5 e1 e2 e3 e4 n1 n2 n3 n4 hS4
  walk_at "Q"
  walk_at "RD"
  refine ⟨by decide, fun z6 H6 n6 s6 e6 => ?_⟩
  obtain ⟨m, hm, hmv⟩ := atL3 (x := 0) (y := 40) (z := 297) (e := v / 40 % 3) (by lia) (by lia)
  have a6 := a0.same s6
  refine ⟨_, rfl, _, _, rfl, rfl, (by show (0 : Int) < 3; decide), _, _, _, _, rfl, rfl, SqL.of e6, hm, _, rfl, by lia, by lia, C1 (fun i σ H' => ∃ (o6 o7 : Option V) (rs : List Rw), σ = [some (.ref a), some (.ref D), some (.ref L), some (.ref A), some (.ref U), some (.int (v / 40)), o6, o7, none, none, none, none] ∧ AU K H' a D L A U (ns.map V.int) rs rs (sto rs) ∧ rs.length = i + 1) ⟨none, none, [.gates], rfl, a6, rfl⟩ ?_ ?_⟩
  ·clear a0 a6 s6 e6 n6 hm
   rintro i σ H1 hi ⟨o6, o7, rs, rfl, au, lr⟩
   have hi : i < 297 := by lia
   dsimp only [B4, List.set_cons_succ, List.set_cons_zero]
   walk_at "Q"
   walk_at "RD"
   refine ⟨by decide, fun q H2 n2 s2 e2 => ?_⟩
   walk_at "NX"
   have au2 := au.same s2
   clear au s2 n2
   walk_at "Q"
   have rest : ∀ (q : Addr) (H3 : Hp) (w : Str) (p x y : Int), AU K H3 a D L A U (ns.map V.int) rs rs (sto rs) → H3 q = some (.tup [.str w, .int p, .int x, .int y]) → Wrd w → Bg p → Bg x → Bg y → M [some (.ref a), some (.ref D), some (.ref L), some (.ref A), some (.ref U), some (.int (v / 40)), some (.int (0 + (i : Int))), some (.ref q), none, none, none, none] H3 := fun q H3 w p x y au e wd bp bx by_ => by
    refine hM _ _ ?_
    clear hM M
    walk_at "Q"
    walk_at "RD"
    refine ⟨⟨_, au.ea⟩, q, w, p, x, y, rfl, SqT.of e, wd, bp, bx, by_, fun H4 s4 => ⟨_, s4.get au.ea, by rw [List.length_map, PySem.sizeLine_eq]; lia, ?_⟩⟩
    walk_at "NX"
    have au5 := (au.same s4).put (r := .deed w p x y) ⟨wd, bp, bx, by_⟩
    have e5 : upd H4 A (.lst (Iu rs ++ [V.str (tx (E4 (.deed w p x y)))])) q = some (.tup [.str w, .int p, .int x, .int y]) := (AI (A4 (s4.get e) (au.same s4).ea fun z => by cases z)).trans (s4.get e)
    walk_at "RD"
    refine ⟨⟨_, au5.eu⟩, (sto rs).1, (sto rs).2, D, L, q, w, p, x, y, rfl, SqT.of e5, au5.wa, wd, bp, bx, by_, fun H6 hw6 dl => ⟨_, (au5.dl (st' := Ho (.deed w p x y) (sto rs)) dl hw6).eu, by rw [List.length_map, DX, PySem.sizeLine_eq]; lia, ?_⟩⟩
    have au7 := (au5.dl (st' := Ho (.deed w p x y) (sto rs)) dl hw6).ans (r := .deed w p x y)
    rw [← Df] at au7
    exact ⟨⟨_, rfl⟩, ⟨_, rfl⟩, rs ++ [Rw.deed w p x y], (show AU K (upd H6 U (.lst (GR rs ++ [V.str (Kd w (sto rs).1 (sto rs).2 p x y)]))) a D L A U (ns.map V.int) (rs ++ [Rw.deed w p x y]) (rs ++ [Rw.deed w p x y]) (sto (rs ++ [Rw.deed w p x y])) from au7), by rw [List.length_append, lr]; rfl⟩
   clear hM
   walk_at "RD"
   by_cases c1 : v / 40 % 3 = 2
   ·rw [if_pos (decide_eq_true c1)]
    by_cases c2 : (0 : Int) < 0 + (i : Int)
    ·rw [if_pos (decide_eq_true c2)]
     exact ⟨by decide, fun q2 H3 n3 s3 e3 => rest q2 H3 "lift" 80 0 0 (au2.same s3) e3 (.lift rfl) (by unfold Bg; lia) (by unfold Bg; lia) (by unfold Bg; lia)⟩
    ·rw [if_neg (fun z => c2 (of_decide_eq_true z))]
     exact rest q H2 "put" _ _ _ au2 e2 (.put rfl) (by unfold Bg; lia) (by unfold Bg; lia) (by unfold Bg; lia)
   ·rw [if_neg (fun z => c1 (of_decide_eq_true z))]
    exact rest q H2 "put" _ _ _ au2 e2 (.put rfl) (by unfold Bg; lia) (by unfold Bg; lia) (by unfold Bg; lia)
  ·clear a0 a6 s6 e6 n6 hm
   rintro σ H1 ⟨o6, o7, rs, rfl, au, lr⟩
   refine hM _ _ ?_
   clear hM M
   replace lr : rs.length ≤ 298 := by lia
   walk_at "Q"
   have sc1 := au.sc.sq
   walk_at "RD"
   refine ⟨_, rfl, _, rfl, _, .inl sc1, 1, _, rfl, ⟨by lia, by lia, by rw [List.length_map]; lia, by rw [List.length_map]; lia⟩, C1 (fun i σ H' => ∃ (o6 o7 o8 : Option V) (rs : List Rw), σ = [some (.ref a), some (.ref D), some (.ref L), some (.ref A), some (.ref U), some (.int (v / 40)), o6, o7, o8, none, none, none] ∧ AU K H' a D L A U (ns.map V.int) rs rs (sto rs) ∧ rs.length ≤ 298 + 2 * i) ⟨_, _, _, rs, rfl, au, by lia⟩ ?_ ?_⟩
   ·clear au sc1 lr
    rintro i σ H1 hi ⟨o6, o7, o8, rs, rfl, au, lr⟩
    rw [List.length_map] at hi
    have hi : 1 + i < ns.length := by lia
    dsimp only [B4, List.set_cons_succ, List.set_cons_zero]
    obtain ⟨xs, eL, lL⟩ := au.wa.plen
    walk_at "Q"
    walk_at "RD"
    refine ⟨a, 1 + (i : Int), ns, D, L, (sto rs).1, xs, rfl, au.sc.sq, by lia, by lia, hl, au.wa.dk, au.wa.std, eL, by have := au.wa.len; lia, fun q H3 w p x y n3 s3 e wd bp bx by_ => ?_⟩
    walk_at "NX"
    have au3 := au.same s3
    clear au s3 n3 eL lL xs
    walk_at "Q"
    walk_at "RD"
    refine ⟨⟨_, au3.ea⟩, q, w, p, x, y, rfl, SqT.of e, wd, bp, bx, by_, fun H4 s4 => ⟨_, s4.get au3.ea, by rw [List.length_map, PySem.sizeLine_eq]; lia, ?_⟩⟩
    walk_at "NX"
    have au5 := (au3.same s4).put (r := .deed w p x y) ⟨wd, bp, bx, by_⟩
    have e5 : upd H4 A (.lst (Iu rs ++ [V.str (tx (E4 (.deed w p x y)))])) q = some (.tup [.str w, .int p, .int x, .int y]) := (AI (A4 (s4.get e) (au3.same s4).ea fun z => by cases z)).trans (s4.get e)
    walk_at "Q"
    walk_at "RD"
    refine ⟨⟨_, au5.eu⟩, (sto rs).1, (sto rs).2, D, L, q, w, p, x, y, rfl, SqT.of e5, au5.wa, wd, bp, bx, by_, fun H6 hw6 dl => ⟨_, (au5.dl (st' := Ho (.deed w p x y) (sto rs)) dl hw6).eu, by rw [List.length_map, DX, PySem.sizeLine_eq]; lia, ?_⟩⟩
    walk_at "NX"
    have au7 := (au5.dl (st' := Ho (.deed w p x y) (sto rs)) dl hw6).ans (r := .deed w p x y)
    rw [← Df] at au7
    have lr7 : (rs ++ [Rw.deed w p x y]).length ≤ 299 + 2 * i := by rw [List.length_append, List.length_singleton]; lia
    clear au3 au5 e5 hw6 dl e s4
    walk_at "RD"
    by_cases c3 : (1 + (i : Int)) % 3 = 0
    ·rw [if_pos (decide_eq_true c3)]
     refine ⟨⟨_, au7.ea⟩, _, au7.ea, by rw [List.length_map, PySem.sizeLine_eq]; lia, ?_⟩
     have au8 := au7.put (r := .gates) trivial
     clear au7
     refine ⟨⟨_, au8.eu⟩, D, (sto (rs ++ [Rw.deed w p x y])).1, rfl, au8.wa.dk, au8.wa.std, fun H9 s9 => ⟨_, s9.get au8.eu, by rw [List.length_map, DX, PySem.sizeLine_eq]; lia, ?_⟩⟩
     have au9 := (au8.same s9).ans (r := .gates)
     have e9 : sto (rs ++ [Rw.deed w p x y] ++ [Rw.gates]) = sto (rs ++ [Rw.deed w p x y]) := Df _ _ _
     exact ⟨⟨_, rfl⟩, ⟨_, rfl⟩, ⟨_, rfl⟩, rs ++ [Rw.deed w p x y] ++ [Rw.gates], (by rw [e9]; exact au9), by rw [List.length_append, List.length_singleton]; lia⟩
    ·rw [if_neg (fun z => c3 (of_decide_eq_true z))]
     exact ⟨⟨_, rfl⟩, ⟨_, rfl⟩, ⟨_, rfl⟩, rs ++ [Rw.deed w p x y], au7, by lia⟩
   ·clear au sc1 lr
    rintro σ H1 ⟨o6, o7, o8, rs, rfl, au, lr⟩
    refine hM _ _ ?_
    clear hM M
    replace lr : rs.length ≤ 500 := by rw [List.length_map] at lr; lia
    walk_at "Q"
    walk_at "RD"
    refine ⟨by decide, fun q1 H2 n2 s2 e2 => ⟨_, s2.get au.ea, _, e2, by rw [List.length_map, PySem.sizeLine_eq]; simp only [List.length_cons, List.length_nil]; lia, fun A2 H3 n3 s3 e3 => ?_⟩⟩
    walk_at "NX"
    walk_at "Q"
    walk_at "RD"
    have au3 := au.same (s2.trans s3)
    obtain ⟨ys, eL, lL⟩ := au3.wa.plen
    have l3 := au3.wa.len
    refine ⟨ys, .inl (SqL.of eL), ?_⟩
    rw [lL, MR]
    refine ⟨lgT (n := 20) (by lia) (by decide) (by decide), MA _ (by lia), D, (sto rs).1, rfl, au3.wa.dk, au3.wa.std, fun H4 s4 => ⟨by decide, fun p1 H5 n5 s5 e5 => ⟨_, (s4.trans s5).get au3.eu, _, e5, by rw [List.length_map, DX, PySem.sizeLine_eq]; simp only [List.length_cons, List.length_nil]; lia, fun U2 H6 n6 s6 e6 => ?_⟩⟩⟩
    have eU : H6 U2 = some (.lst (GR (rs ++ [.deeds, .gates]))) := e6.trans (by rw [NL])
    have eA : H6 A2 = some (.lst ((rs ++ [Rw.deeds, Rw.gates]).map fun r => V.str (tx (E4 r)))) := (s4.trans (s5.trans s6)).get (e3.trans (by rw [List.map_append]; rfl))
    have ok9 : ∀ r ∈ rs ++ [Rw.deeds, Rw.gates], OkR r := fun r hr => by
     rcases List.mem_append.mp hr with z | z
     ·exact au.ok r z
     ·simp only [List.mem_cons, List.not_mem_nil, or_false] at z
      rcases z with rfl | rfl <;> trivial
    have lr9 : (rs ++ [Rw.deeds, Rw.gates]).length ≤ 502 := by rw [List.length_append]; simp only [List.length_cons, List.length_nil]; lia
    clear e6 e5 e3 e2 s2 s3 s4 s5 s6 n2 n3 n5 n6 eL lL l3 au au3
    generalize rs ++ [Rw.deeds, Rw.gates] = rs9 at *
    walk_at "NX"
    walk_at "Q"
    walk_at "RD"
    refine ⟨_, .inl (SqL.of eA), fun Hd H7 n7 s7 e7 => ?_⟩
    walk_at "NX"
    walk_at "Q"
    walk_at "RD"
    refine ⟨Hd, rs9, rfl, SqL.of e7, ok9, by lia, fun F H8 n8 s8 e8 => ?_⟩
    replace eU := (s7.trans s8).get eU
    replace eA := (s7.trans s8).get eA
    replace e7 := s8.get e7
    clear n7 s7 n8 s8 ok9
    walk_at "NX"
    walk_at "Q"
    walk_at "RD"
    refine ⟨_, .lst e8, true, by rfl, ?_⟩
    rw [if_neg (by decide)]
    refine ⟨_, .inl (SqL.of e8), _, .inl (SqL.of eU), ?_⟩
    rw [if_neg (by rw [show GR rs9 = (anX rs9 ([], [])).map V.str from rfl, decide_eq_true rfl]; decide)]
    refine ⟨_, .inl (SqL.of e7), _, .inl (SqL.of eA), ?_⟩
    rw [if_neg (by rw [decide_eq_true rfl]; decide)]
    walk_at "NX"
    walk_at "Q"
    walk_at "RD"
    have lU : (GR rs9).length = rs9.length := by rw [List.length_map, DX]
    refine ⟨_, rfl, _, rfl, _, .inl (SqL.of eU), _, rfl, by lia, by lia, C1 (fun i σ H' => ∃ o8 : Option V, σ = [some (.ref a), some (.ref D), some (.ref L), some (.ref A2), some (.ref U2), some (.int (v / 40)), o6, o7, o8, some (.ref Hd), some (.ref F), none] ∧ H' = H8) ⟨_, rfl, rfl⟩ ?_ ?_⟩
    ·rintro i σ H9 hi ⟨o8, rfl, rfl⟩
     dsimp only [B4, List.set_cons_succ, List.set_cons_zero]
     have hi : i < rs9.length := by lia
     walk_at "RD"
     have l1 : i < (anX rs9 ([], [])).length := by rw [DX]; exact hi
     have g1 : atI ((anX rs9 ([], [])).map V.str) (0 + (i : Int)) = some (V.str ((anX rs9 ([], []))[i])) := by
      rw [Int.zero_add]
      exact Cb (by rw [List.getElem?_map, List.getElem?_eq_getElem l1]; rfl)
     have g2 : atI (rs9.map fun r => V.str (tx (E4 r))) (0 + (i : Int)) = some (V.str (tx (E4 rs9[i]))) := by
      rw [Int.zero_add]
      exact Cb (by rw [List.getElem?_map, List.getElem?_eq_getElem hi]; rfl)
     refine ⟨_, SqL.of e8, _, g1, _, .str _, true, by rfl, ?_⟩
     rw [if_neg (by decide)]
     refine ⟨_, SqL.of e8, _, g1, _, SqL.of eU, _, g1, rfl, ?_⟩
     rw [if_neg (by rw [decide_eq_true rfl]; decide)]
     refine ⟨_, SqL.of e7, _, g2, _, SqL.of eA, _, g2, rfl, ?_⟩
     rw [if_neg (by rw [decide_eq_true rfl]; decide)]
     exact ⟨_, rfl⟩
    ·rintro σ H9 ⟨o8, rfl, rfl⟩
     refine hM _ _ ?_
     clear hM M
     walk_at "Q"
     walk_at "RD"
     refine ⟨by decide, fun Z HA nA sA eZ => ⟨Z, [], rfl, SqL.of eZ, fun r hr => absurd hr (by simp), by decide, fun Y HB nB sB eY => ?_⟩⟩
     walk_at "NX"
     walk_at "RD"
     refine ⟨_, .lst eY, true, by rfl, ?_⟩
     rw [if_pos rfl]
     exact ⟨_, .inl (SqL.of eY), k HB⟩
end
theorem S0 {l : PySem.W.OpenLaw} {w : World} {K : PySem.W.Frag} {h : Heap} {mg : Str → Option Value} {fa : Addr} (KO : KU K = Mg w) (X : K.In h) (G : h.Ns mainGlobals mg) (hfa : mg "law" = some (.ref fa)) :
  ∃ fd : FuncData, (∀ (s : Shared) (v : Value), BindsTo s fd ⟨[v], []⟩ [("_law_script", v)]) ∧ ∀ base : Heap, K.In base → base.Ns mainGlobals mg → Ag l.prog w K mg base CX0 10 fa fd ["_law_script"] (K6 K) := by
 obtain ⟨g0, KO⟩ := Prod.mk.inj KO
 obtain ⟨g1, KO⟩ := Prod.mk.inj KO
 obtain ⟨g2, KO⟩ := Prod.mk.inj KO
 obtain ⟨g3, KO⟩ := Prod.mk.inj KO
 obtain ⟨g4, KO⟩ := Prod.mk.inj KO
 obtain ⟨g5, KO⟩ := Prod.mk.inj KO
 obtain ⟨g6, KO⟩ := Prod.mk.inj KO
 obtain ⟨g7, KO⟩ := Prod.mk.inj KO
 obtain ⟨g8, KO⟩ := Prod.mk.inj KO
 obtain ⟨g9, KO⟩ := Prod.mk.inj KO
 obtain ⟨g10, KO⟩ := Prod.mk.inj KO
 obtain ⟨g11, KO⟩ := Prod.mk.inj KO
 have hH := KO
 obtain ⟨h1, h2, h3, h4, h5, h6, h7, h8⟩ := KD g0
 obtain ⟨h9, h10, h11, h12, h13, h14, h15, h16⟩ := KD g1
 obtain ⟨h70, h71, h72, h73, h74, h75, h76, h77⟩ := KD g2
 obtain ⟨h78, h79, h80, h81⟩ := inj4 g3
 obtain ⟨h17, h18, h19, h20, h21, h22, h23, h24⟩ := KD g4
 obtain ⟨h25, h26, h27, h28, h29, h30, h31, h32⟩ := KD g5
 obtain ⟨h33, h34, h35, h36, h37, h38, h39, h40⟩ := KD g6
 obtain ⟨h41, h42, h43, h44, h45, h46, h47, h48⟩ := KD g7
 obtain ⟨h49, h50, h51, h52, h53, h54, h55, h56⟩ := KD g8
 obtain ⟨h57, h58, h59, h60, h61⟩ := inj5 g9
 obtain ⟨h62, h63, h64, h65, h66, h67, h69⟩ := inj7 g10
 have h68 := inj1 g11
 obtain ⟨C_Beach, aC_Beach, pg_Beach, hd_Beach, po_Beach, sa_Beach, mk_Beach, kc_Beach, na_Beach⟩ := Ll h1
 obtain ⟨C_Desk, aC_Desk, pg_Desk, hd_Desk, po_Desk, sa_Desk, mk_Desk, kc_Desk, na_Desk⟩ := Ll h2
 obtain ⟨C_BeachError, aC_BeachError, ex_BeachError⟩ := BP h3
 obtain ⟨C_NoGate, aC_NoGate, ex_NoGate⟩ := BP h4
 obtain ⟨C_Taken, aC_Taken, ex_Taken⟩ := BP h5
 obtain ⟨C_UpsideDown, aC_UpsideDown, ex_UpsideDown⟩ := BP h6
 obtain ⟨C_OutOfBounds, aC_OutOfBounds, ex_OutOfBounds⟩ := BP h7
 obtain ⟨C_BeachFull, aC_BeachFull, ex_BeachFull⟩ := BP h8
 obtain ⟨C_DeedsFull, aC_DeedsFull, ex_DeedsFull⟩ := BP h9
 obtain ⟨C_NothingBack, aC_NothingBack, ex_NothingBack⟩ := BP h10
 obtain ⟨C_BadList, aC_BadList, ex_BadList⟩ := BP h11
 obtain ⟨C_TooFew, aC_TooFew, ex_TooFew⟩ := BP h12
 obtain ⟨C_WrongSize, aC_WrongSize, ex_WrongSize⟩ := BP h13
 obtain ⟨C_BadThrow, aC_BadThrow, ex_BadThrow⟩ := BP h14
 obtain ⟨C_BadRow, aC_BadRow, ex_BadRow⟩ := BP h15
 obtain ⟨f1, fd1, d1⟩ := Aj (ps := ["gate"]) X G h17 fun _ _ _ _ _ _ us hl => by walk_at "b1"
 obtain ⟨f2, fd2, d2⟩ := Bx (ps := ["self"]) aC_Beach h18 fun _ _ _ _ _ _ us hl => by walk_at "b1"
 obtain ⟨f3, fd3, d3⟩ := Bx (ps := ["self", "place"]) aC_Beach h19 fun _ _ _ _ _ _ us hl => by walk_at "b2"
 obtain ⟨f4, fd4, d4⟩ := Bx (ps := ["self", "place"]) aC_Beach h20 fun _ _ _ _ _ _ us hl => by walk_at "b2"
 obtain ⟨f5, fd5, d5⟩ := Bx (ps := ["self", "place", "instead"]) aC_Beach h21 fun _ _ _ _ _ _ us hl => by walk_at "b3"
 obtain ⟨f6, fd6, d6⟩ := Bx (ps := ["self", "place", "foot", "head"]) aC_Beach h22 fun _ _ _ _ _ _ us hl => by walk_at "b4"
 obtain ⟨f7, fd7, d7⟩ := Bx (ps := ["self", "place"]) aC_Beach h23 fun _ _ _ _ _ _ us hl => by walk_at "b2"
 obtain ⟨f8, fd8, d8⟩ := Bx (ps := ["self", "place", "foot_by", "head_by"]) aC_Beach h24 fun _ _ _ _ _ _ us hl => by walk_at "b4"
 obtain ⟨f9, fd9, d9⟩ := Bx (ps := ["self", "place", "foot_by", "head_by"]) aC_Beach h25 fun _ _ _ _ _ _ us hl => by walk_at "b4"
 obtain ⟨f10, fd10, d10⟩ := Ol (ps := ["self", "many"]) aC_Beach h26 (fun s d _ _ _ _ _ _ _ _ _ _ _ us ho hl => by obtain ⟨x0, x1, rfl⟩ := UK hl; exact BindsTo.of_defaults (T := d) rfl ho rfl rfl rfl) (fun s d _ _ _ _ _ _ _ _ _ _ _ us ho hl => by obtain ⟨x0, rfl⟩ := Mn (Nat.succ.inj hl); exact BindsTo.of_defaults (T := d) rfl ho rfl rfl rfl)
 obtain ⟨f11, fd11, d11⟩ := Bx (ps := ["self"]) aC_Beach h27 fun _ _ _ _ _ _ us hl => by walk_at "b1"
 obtain ⟨f12, fd12, d12⟩ := Bx (ps := ["self"]) aC_Beach h28 fun _ _ _ _ _ _ us hl => by walk_at "b1"
 obtain ⟨f13, fd13, d13⟩ := Aj (ps := ["text"]) X G h29 fun _ _ _ _ _ _ us hl => by walk_at "b1"
 obtain ⟨f14, fd14, d14⟩ := Aj (ps := ["text"]) X G h30 fun _ _ _ _ _ _ us hl => by walk_at "b1"
 obtain ⟨f15, fd15, d15⟩ := Aj (ps := ["words", "many"]) X G h31 fun _ _ _ _ _ _ us hl => by walk_at "b2"
 obtain ⟨f16, fd16, d16⟩ := Aj (ps := ["words"]) X G h32 fun _ _ _ _ _ _ us hl => by walk_at "b1"
 obtain ⟨f17, fd17, d17⟩ := Aj (ps := ["words", "many"]) X G h33 fun _ _ _ _ _ _ us hl => by walk_at "b2"
 obtain ⟨f18, fd18, d18⟩ := Aj (ps := ["numbers"]) X G h34 fun _ _ _ _ _ _ us hl => by walk_at "b1"
 obtain ⟨f19, fd19, d19⟩ := Aj (ps := ["gate"]) X G h35 fun _ _ _ _ _ _ us hl => by walk_at "b1"
 obtain ⟨f20, fd20, d20⟩ := Aj (ps := ["many"]) X G h36 fun _ _ _ _ _ _ us hl => by walk_at "b1"
 obtain ⟨f21, fd21, d21⟩ := Aj (ps := ["beach", "words"]) X G h37 fun _ _ _ _ _ _ us hl => by walk_at "b2"
 obtain ⟨f22, fd22, d22⟩ := Aj (ps := ["beach", "words"]) X G h38 fun _ _ _ _ _ _ us hl => by walk_at "b2"
 obtain ⟨f23, fd23, d23⟩ := Aj (ps := ["beach", "words"]) X G h39 fun _ _ _ _ _ _ us hl => by walk_at "b2"
 obtain ⟨f24, fd24, d24⟩ := Aj (ps := ["beach", "words"]) X G h40 fun _ _ _ _ _ _ us hl => by walk_at "b2"
 obtain ⟨f25, fd25, d25⟩ := Aj (ps := ["beach", "words"]) X G h41 fun _ _ _ _ _ _ us hl => by walk_at "b2"
 obtain ⟨f26, fd26, d26⟩ := Aj (ps := ["beach", "words"]) X G h42 fun _ _ _ _ _ _ us hl => by walk_at "b2"
 obtain ⟨f27, fd27, d27⟩ := Aj (ps := ["beach", "words"]) X G h43 fun _ _ _ _ _ _ us hl => by walk_at "b2"
 obtain ⟨f28, fd28, d28⟩ := Aj (ps := ["beach", "row"]) X G h44 fun _ _ _ _ _ _ us hl => by walk_at "b2"
 obtain ⟨f29, fd29, d29⟩ := Aj (ps := ["beach", "row"]) X G h45 fun _ _ _ _ _ _ us hl => by walk_at "b2"
 obtain ⟨f30, fd30, d30⟩ := Bx (ps := ["self"]) aC_Desk h46 fun _ _ _ _ _ _ us hl => by walk_at "b1"
 obtain ⟨f31, fd31, d31⟩ := Bx (ps := ["self", "row"]) aC_Desk h47 fun _ _ _ _ _ _ us hl => by walk_at "b2"
 obtain ⟨f32, fd32, d32⟩ := Aj (ps := ["rows"]) X G h48 fun _ _ _ _ _ _ us hl => by walk_at "b1"
 obtain ⟨f33, fd33, d33⟩ := Aj (ps := ["_law_cell", "_law_many", "_law_mixed"]) X G h49 fun _ _ _ _ _ _ us hl => by walk_at "b3"
 obtain ⟨f34, fd34, d34⟩ := Aj (ps := ["_law_draw"]) X G h50 fun _ _ _ _ _ _ us hl => by walk_at "b1"
 obtain ⟨f35, fd35, d35⟩ := Aj (ps := ["_law_script", "_law_k"]) X G h51 fun _ _ _ _ _ _ us hl => by walk_at "b2"
 obtain ⟨f36, fd36, d36⟩ := Aj (ps := ["_law_script"]) X G h52 fun _ _ _ _ _ _ us hl => by walk_at "b1"
 obtain ⟨f37, fd37, d37⟩ := Aj (ps := ["_law_script", "_law_k", "_law_stands", "_law_past"]) X G h53 fun _ _ _ _ _ _ us hl => by walk_at "b4"
 obtain ⟨f38, fd38, d38⟩ := Aj (ps := ["_law_deed_here"]) X G h54 fun _ _ _ _ _ _ us hl => by walk_at "b1"
 obtain ⟨f39, fd39, d39⟩ := Aj (ps := ["_law_stands", "_law_deed_here"]) X G h55 fun _ _ _ _ _ _ us hl => by walk_at "b2"
 obtain ⟨f40, fd40, d40⟩ := Aj (ps := ["_law_stands", "_law_past", "_law_deed_here"]) X G h56 fun _ _ _ _ _ _ us hl => by walk_at "b3"
 obtain ⟨f41, fd41, d41⟩ := Aj (ps := ["_law_stands", "_law_past", "_law_deed_here"]) X G h57 fun _ _ _ _ _ _ us hl => by walk_at "b3"
 obtain ⟨f42, fd42, d42⟩ := Aj (ps := ["_law_stands", "_law_past", "_law_deed_here"]) X G h58 fun _ _ _ _ _ _ us hl => by walk_at "b3"
 obtain ⟨f43, fd43, d43⟩ := Aj (ps := ["_law_stands"]) X G h59 fun _ _ _ _ _ _ us hl => by walk_at "b1"
 obtain ⟨f44, fd44, d44⟩ := Aj (ps := ["_law_stands"]) X G h60 fun _ _ _ _ _ _ us hl => by walk_at "b1"
 obtain ⟨f45, oc, od, sl, kV, dc, pm, an, cd, ct, a, l, c, k⟩ := Lz h61
 obtain ⟨t_LEAST, ak_LEAST⟩ := DJ h62
 obtain ⟨t_GREATEST, ak_GREATEST⟩ := DJ h63
 obtain ⟨t_MOST_GATES, ak_MOST_GATES⟩ := DJ h64
 obtain ⟨t_MOST_DEEDS, ak_MOST_DEEDS⟩ := DJ h65
 obtain ⟨t_SMALL_BEACH, ak_SMALL_BEACH⟩ := DJ h66
 obtain ⟨t_GREAT_NUMBER, ak_GREAT_NUMBER⟩ := DJ h67
 obtain ⟨t_FIGURES, ak_FIGURES⟩ := OP h68
 obtain ⟨t_MOST_FIGURES, ak_MOST_FIGURES⟩ := DJ h69
 obtain ⟨A_ROWS, m_ROWS, rows⟩ := Og X G h70 hH
 have e := hfa.symm.trans (PySem.W.mg_of X G a)
 cases e
 let T : Tx w K mg := ⟨C_Beach,
  PySem.W.mg_of X G aC_Beach,
  ⟨pg_Beach, hd_Beach, po_Beach, sa_Beach⟩,
  C_Desk,
  PySem.W.mg_of X G aC_Desk,
  ⟨pg_Desk, hd_Desk, po_Desk, sa_Desk⟩,
  na_Beach "standing" (by simp only [List.mem_cons, true_or, or_true]),
  na_Beach "past" (by simp only [List.mem_cons, true_or, or_true]),
  na_Desk "beach" (by simp only [List.mem_cons, true_or, or_true]),
  C_BeachError,
  PySem.W.mg_of X G aC_BeachError,
  ex_BeachError,
  C_NoGate,
  PySem.W.mg_of X G aC_NoGate,
  ex_NoGate,
  C_Taken,
  PySem.W.mg_of X G aC_Taken,
  ex_Taken,
  C_UpsideDown,
  PySem.W.mg_of X G aC_UpsideDown,
  ex_UpsideDown,
  C_OutOfBounds,
  PySem.W.mg_of X G aC_OutOfBounds,
  ex_OutOfBounds,
  C_BeachFull,
  PySem.W.mg_of X G aC_BeachFull,
  ex_BeachFull,
  C_DeedsFull,
  PySem.W.mg_of X G aC_DeedsFull,
  ex_DeedsFull,
  C_NothingBack,
  PySem.W.mg_of X G aC_NothingBack,
  ex_NothingBack,
  C_BadList,
  PySem.W.mg_of X G aC_BadList,
  ex_BadList,
  C_TooFew,
  PySem.W.mg_of X G aC_TooFew,
  ex_TooFew,
  C_WrongSize,
  PySem.W.mg_of X G aC_WrongSize,
  ex_WrongSize,
  C_BadThrow,
  PySem.W.mg_of X G aC_BadThrow,
  ex_BadThrow,
  C_BadRow,
  PySem.W.mg_of X G aC_BadRow,
  ex_BadRow,
  Ng (.cons aC_BadRow (.cons aC_NoGate (.cons aC_Taken (.cons aC_UpsideDown (.cons aC_OutOfBounds (.cons aC_BeachFull (.cons aC_DeedsFull (.cons aC_NothingBack (.cons aC_BadList (.cons aC_TooFew (.cons aC_WrongSize (.cons aC_BadThrow .nil)))))))))))) h16,
  f1, fd1, d1,
  f2, fd2, d2,
  f3, fd3, d3,
  f4, fd4, d4,
  f5, fd5, d5,
  f6, fd6, d6,
  f7, fd7, d7,
  f8, fd8, d8,
  f9, fd9, d9,
  f10, fd10, d10,
  f11, fd11, d11,
  f12, fd12, d12,
  f13, fd13, d13,
  f14, fd14, d14,
  f15, fd15, d15,
  f16, fd16, d16,
  f17, fd17, d17,
  f18, fd18, d18,
  f19, fd19, d19,
  f20, fd20, d20,
  f21, fd21, d21,
  f22, fd22, d22,
  f23, fd23, d23,
  f24, fd24, d24,
  f25, fd25, d25,
  f26, fd26, d26,
  f27, fd27, d27,
  f28, fd28, d28,
  f29, fd29, d29,
  f30, fd30, d30,
  f31, fd31, d31,
  f32, fd32, d32,
  f33, fd33, d33,
  f34, fd34, d34,
  f35, fd35, d35,
  f36, fd36, d36,
  f37, fd37, d37,
  f38, fd38, d38,
  f39, fd39, d39,
  f40, fd40, d40,
  f41, fd41, d41,
  f42, fd42, d42,
  f43, fd43, d43,
  f44, fd44, d44,
  _, _, ⟨Fn l c k, PySem.W.mg_of X G a, (Fn l c k).binds (ps := ["_law_script"]) fun _ _ _ _ _ _ us hl => by walk_at "b1"⟩,
  ⟨mk_Beach, d2.mt.1, d2.mt.2, kc_Beach⟩,
  ⟨mk_Desk, d30.mt.1, d30.mt.2, kc_Desk⟩,
  _,
  PySem.W.mg_of X G ak_LEAST,
  ⟨_, rfl⟩,
  _,
  PySem.W.mg_of X G ak_GREATEST,
  ⟨_, rfl⟩,
  _,
  PySem.W.mg_of X G ak_MOST_GATES,
  ⟨_, rfl⟩,
  _,
  PySem.W.mg_of X G ak_MOST_DEEDS,
  ⟨_, rfl⟩,
  _,
  PySem.W.mg_of X G ak_SMALL_BEACH,
  ⟨_, rfl⟩,
  _,
  PySem.W.mg_of X G ak_GREAT_NUMBER,
  ⟨_, rfl⟩,
  _,
  PySem.W.mg_of X G ak_FIGURES,
  ⟨_, rfl⟩,
  _,
  PySem.W.mg_of X G ak_MOST_FIGURES,
  ⟨_, rfl⟩,
  A_ROWS,
  m_ROWS,
  rows,
  PySem.W.mg_none_of X G (Be h71),
  PySem.W.mg_none_of X G (Be h72),
  PySem.W.mg_none_of X G (Be h73),
  PySem.W.mg_none_of X G (Be h74),
  PySem.W.mg_none_of X G (Be h75),
  PySem.W.mg_none_of X G (Be h76),
  PySem.W.mg_none_of X G (Be h77),
  PySem.W.mg_none_of X G (Be h78),
  PySem.W.mg_none_of X G (Be h79),
  PySem.W.mg_none_of X G (Be h80),
  PySem.W.mg_none_of X G (Be h81)⟩
 exact ⟨_, fun s v => .of_eq rfl, fun base _ _ => Qn T⟩
end TG
open PySem PySem.W PyProof.Rows
set_option maxRecDepth 100000 in
set_option maxHeartbeats 0 in
theorem PySem.Challenge.cw_throwgate_k34_desk_deeds_holds : PySem.Challenge.rw_throwgate_k34_desk_deeds.Holds := by
 w_on; o_law
 refine holds_open (q := TG.qv) (loose := TG.Fj) (Xt := fun _ => true) (XP := fun _ _ => True) (Yf := fun s => TG.KU (TG.Kof TG.addrs s.heap)) (Ya := fun w => TG.Mg w) (YP := TG.FM TG.addrs TG.KU TG.Mg) (N := 12846) TG.left (fun w s e => TG.FM.of w s e) TG.FM.keeps (fun _ _ => trivial) (fun _ _ _ _ _ => trivial) (by rfl) (by rfl) (by rfl) (fun _ _ => TG.Qt rfl) rfl (by assumption) (by decide +kernel) ⟨rfl, rfl, rfl, rfl, rfl, by decide +kernel⟩ ?hw ?hc
 case hw => w_witness2
 case hc =>
  exact TG.NF (l := PySem.Challenge.rw_throwgate_k34_desk_deeds) (n := 63) (k := 10) (x := "_law_script") (CX := L2.CX0) (sp := TG.K6) rfl (by decide) rfl ⟨rfl, by decide, by decide⟩ (fun w mg fa h K KO KX G hmg => TG.S0 KO KX G hmg) (fun _ _ a ns hl _ hS => ⟨a, ns, rfl, hS, hl, fun _ => rfl⟩) fun _ _ _ _ z => z
