import PyProof.Rows.All
import Wide.All
import OpenK.AllK
import Wide.FinOn
import Lean
import PyProof.EqAt
import PyProof.EqKinds
import PyProof.TupleCall
import KE.KMinKey
import KE.KIntText
import PyProof.MeetsStr2
import PyProof.FString
import PyProof.FString2
import PyProof.StrLawsTight
import PyProof.StrLawsIdx
import PyProof.StrBlockL
import PyProof.StrBlock2
import PyProof.Rows.StrJoin2
import PyProof.Rows.StrBin
import PyProof.Rows.StrItems
import KE.IntTextText
import Open.Fast
import PySem.Challenge.RW_throwgate_k36_apart
set_option bootstrap.genMatcherCode false
set_option genSizeOf false
set_option compiler.small 0
set_option Elab.async false
set_option linter.all false
set_option maxRecDepth 100000
namespace L2
open PySem PySem.Spec PyProof.Rows
noncomputable abbrev Key := Sum Int Str
noncomputable def LR : Key → Value → Bool
 | .inl k, v => Value.isInt k v
 | .inr x, v => Value.isStrOf x v
noncomputable def keyH (w : World) : Key → Int
 | .inl k => hashInt k
 | .inr x => hashStr w x
theorem Ae : ∀ {k : Key} {v : Value}, LR k v = true → (∃ i t, k = Sum.inl i ∧ v = Value.int i t) ∨ (∃ x t, k = Sum.inr x ∧ v = Value.str x t)
 | .inl i, v, h => by
  obtain ⟨t, e⟩ := Value.isInt_shape (k := i) (v := v) h
  exact .inl ⟨i, t, rfl, e⟩
 | .inr x, v, h => by
  obtain ⟨t, e⟩ := Value.isStrOf_shape (x := x) (v := v) h
  exact .inr ⟨x, t, rfl, e⟩
theorem NI (a b : Int) : decide ((Sum.inl a : Key) = Sum.inl b) = (a == b) := by
 by_cases e : a = b
 ·subst e; simp
 ·have h : ¬ (Sum.inl a : Key) = Sum.inl b := fun q => e (Sum.inl.inj q)
  rw [decide_eq_false h]
  exact (beq_eq_false_iff_ne.mpr e).symm
theorem L4 (a b : Str) : decide ((Sum.inr a : Key) = Sum.inr b) = decide (a = b) := by
 by_cases e : a = b
 ·subst e; simp
 ·have h : ¬ (Sum.inr a : Key) = Sum.inr b := fun q => e (Sum.inr.inj q)
  rw [decide_eq_false h, decide_eq_false e]
theorem L7 (a : Int) (b : Str) : decide ((Sum.inl a : Key) = Sum.inr b) = false := decide_eq_false (fun q => nomatch q)
theorem Ln (a : Str) (b : Int) : decide ((Sum.inr a : Key) = Sum.inl b) = false := decide_eq_false (fun q => nomatch q)
noncomputable def IS (prog : Program) (w : World) : PySem.KeyKind prog w Key where
 is := LR
 hash := keyH w
 inj := fun v a b ha hb => by
  rcases Ae ha with ⟨i, t, rfl, rfl⟩ | ⟨x, t, rfl, rfl⟩
  ·rcases Ae hb with ⟨j, u, rfl, e⟩ | ⟨y, u, rfl, e⟩
   ·injection e with e1 _; rw [e1]
   ·exact nomatch e
  ·rcases Ae hb with ⟨j, u, rfl, e⟩ | ⟨y, u, rfl, e⟩
   ·exact nomatch e
   ·injection e with e1 _; rw [e1]
 byValue := fun k v h => by
  rcases Ae h with ⟨i, t, rfl, rfl⟩ | ⟨x, t, rfl, rfl⟩ <;> rfl
 pyHash := fun hv h => by
  rcases Ae hv with ⟨i, t, rfl, rfl⟩ | ⟨x, t, rfl, rfl⟩
  ·exact wpAny_pyHash_int h
  ·exact wpAny_pyHash_str h
 eqBool := fun hu hv h => by
  rcases Ae hu with ⟨i, t, rfl, rfl⟩ | ⟨x, t, rfl, rfl⟩
  ·rcases Ae hv with ⟨j, u, rfl, rfl⟩ | ⟨y, u, rfl, rfl⟩
   ·rw [NI] at h; exact wpAny_eqBool_int h
   ·rw [L7] at h; exact SeqAt.EqAt.int_str i t y u _ _ _ _ h
  ·rcases Ae hv with ⟨j, u, rfl, rfl⟩ | ⟨y, u, rfl, rfl⟩
   ·rw [Ln] at h; exact SeqAt.EqAt.str_int x t j u _ _ _ _ h
   ·rw [L4] at h; exact wpAny_eqBool_str h
 «strs» := fun k x t v h => by
  rcases Ae h with ⟨i, u, rfl, e⟩ | ⟨y, u, rfl, e⟩
  ·exact nomatch e
  ·injection e with e1 _
   subst e1
   cases v <;> rfl
inductive V where
 | non | bl (b : Bool) | int (i : Int) | str (x : Str) | byt (b : Array UInt8) | flt (b : UInt64) | ref (a : Addr) | ty (n : String)
 deriving DecidableEq
noncomputable def RelV : V → Value → Prop
 | .non, u => u = Value.none
 | .bl b, u => u = Value.bool b
 | .int i, u => ∃ t, u = Value.int i t
 | .str x, u => ∃ t, u = Value.str x t
 | .byt b, u => ∃ t, u = Value.bytes b t
 | .flt b, u => ∃ t, u = Value.float b t
 | .ref a, u => u = Value.ref a
 | .ty n, u => u = Value.type n
noncomputable abbrev AT : List V → List Value → Prop := Paired RelV
theorem AT.length {xs : List V} {us : List Value} (r : AT xs us) : xs.length = us.length := Paired.length r
theorem AT.get : ∀ {xs : List V} {us : List Value} {i : Nat} {x : V}, AT xs us → xs[i]? = some x → ∃ u, us[i]? = some u ∧ RelV x u
 | _, _, _, _, .nil, e => by simp at e
 | _, _, 0, _, .cons r _, e => by simp at e; subst e; exact ⟨_, rfl, r⟩
 | _, _, i + 1, x, .cons _ t, e => by
  obtain ⟨u, h1, h2⟩ := AT.get (i := i) (x := x) t (by simpa using e)
  exact ⟨u, by simpa using h1, h2⟩
theorem AT.append : ∀ {xs ys : List V} {us ws : List Value}, AT xs us → AT ys ws → AT (xs ++ ys) (us ++ ws)
 | _, _, _, _, .nil, s => s
 | _, _, _, _, .cons r t, s => .cons r (AT.append t s)
theorem AT.take : ∀ {xs : List V} {us : List Value} (n : Nat), AT xs us → AT (xs.take n) (us.take n)
 | _, _, 0, _ => .nil
 | _, _, _ + 1, .nil => .nil
 | _, _, n + 1, .cons r t => .cons r (AT.take n t)
theorem AT.drop : ∀ {xs : List V} {us : List Value} (n : Nat), AT xs us → AT (xs.drop n) (us.drop n)
 | _, _, 0, r => r
 | _, _, _ + 1, .nil => .nil
 | _, _, n + 1, .cons _ t => AT.drop n t
noncomputable def FW : Option V → Option Value → Prop
 | some v, some u => RelV v u
 | none, none => True
 | _, _ => False
noncomputable def KV {κ : Type} : List (κ × V) → List (κ × Value) → Prop := Paired fun (p : κ × V) (q : κ × Value) => p.1 = q.1 ∧ RelV p.2 q.2
noncomputable def kV : Key → V
 | .inl i => .int i
 | .inr x => .str x
inductive HO where
 | lst (xs : List V)
 | tup (xs : List V)
 | dK (kvs : List (Key × V)) | dT (kvs : List (List Key × V))
 | set (S : Int → Bool) (n : Nat)
 | ins (C dx : Addr) (fs : List (Str × V))
 | own (x : Addr)
 | xd (fs : List (Str × V))
 | met (f x : Addr)
 | rng (lo hi : Int)
 | frz (o : Obj) (u : HO)
 | tbl (ps : Array Value)
 | ext (φ : Heap → Prop)
noncomputable abbrev Hp := Addr → Option HO
noncomputable def upd (H : Hp) (a : Addr) (o : HO) : Hp := fun b => if b = a then some o else H b
theorem AI {H : Hp} {a : Addr} {o : HO} : upd H a o a = some o := by unfold upd; rw [if_pos rfl]
theorem AF {H : Hp} {a b : Addr} {o : HO} (h : b ≠ a) : upd H a o b = H b := by unfold upd; rw [if_neg h]
theorem Fn {H : Hp} {a b : Addr} {o u : HO} (h : H a = some o) (h' : H b = some u) (d : o ≠ u) : a ≠ b := by
 intro e; subst e; rw [h] at h'; exact d (Option.some.inj h')
theorem AB {H : Hp} {a b : Addr} {o : HO} (h : H a = some o) (h' : H b = none) : a ≠ b := by
 intro e; subst e; rw [h] at h'; cases h'
section
variable (P : Program) (w : World)
noncomputable def As (H : Hp) (h : Heap) (a : Addr) : HO → Prop
 | .lst xs => xs.length ≤ sizeLine ∧ ∃ (its : List Value) (n : Nat), AT xs its ∧ h.get? a = some { cls := .type "list", data := .seq its.toArray n }
 | .tup xs => xs.length ≤ sizeLine ∧ ∃ its : List Value, AT xs its ∧ IsTup h a its.toArray
 | .dK kvs => kvs.length ≤ sizeLine ∧ (a == sysModules) = false ∧ ∃ vs, KV kvs vs ∧ h.DictOf (IS P w) a vs
 | .dT kvs => kvs.length ≤ sizeLine ∧ (a == sysModules) = false ∧ ∃ xs : List (List Key × Addr × Value),
   Paired (fun (p : List Key × V) (q : List Key × Addr × Value) => p.1 = q.1 ∧ H q.2.1 = some (.tup (p.1.map kV)) ∧ RelV p.2 q.2.2) kvs xs ∧
   ∃ o es ep, h.get? a = some o ∧ o.ExactDict ∧ o.data = .dict es ep ∧ es.toList = xs.map (entryOfKey (tupleKind (IS P w))) ∧ (xs.map (·.1)).Nodup
 | .set S n => h.SetOf (intKind P w) a S n
 | .ins C dx fs => H dx = some (.own a) ∧ fs.length ≤ 1000 ∧ dx ≠ a ∧ h.get? a = some (PySem.W.instObj C dx) ∧
   ∃ mA, h.Ns1 dx mA ∧ (∀ f, FW (fs.lookup f) (mA f)) ∧ PySem.Within mA (fs.map (·.1))
 | .own _ => ∃ o, h.get? a = some o
 | .xd fs => ∃ mA, h.Ns1 a mA ∧ ∀ f, FW (fs.lookup f) (mA f)
 | .rng lo hi => ∃ t u v, h.get? a = some { cls := .type "range", data := .fields #[.int lo t, .int hi u, .int 1 v] }
 | .frz o u => h.get? a = some o ∧ As H h a u
 | .tbl ps => h.get? a = some { cls := .none, data := .fields ps }
 | .met f x => h.get? a = some (PySem.W.methodObj (.ref f) (.ref x))
 | .ext φ => φ h ∧ (∃ o, h.get? a = some o) ∧ ∀ h1 h2 : Heap, φ h1 → (∀ o, h1.get? a = some o → h2.get? a = some o) → φ h2
noncomputable def HOk (H : Hp) (h : Heap) : Prop := ∀ a o, H a = some o → As P w H h a o
end
section
variable {P : Program} {w : World} {H H' : Hp} {h h' : Heap} {a : Addr} {o : HO}
theorem As.lt (x : As P w H h a o) : a < h.objs.size := by
 cases o with
 | lst xs => obtain ⟨_, _, _, _, e⟩ := x; exact Heap.lt_size e
 | tup xs => obtain ⟨_, _, _, p⟩ := x; exact p.lt
 | dK kvs => obtain ⟨_, _, _, _, o, _, _, e, _⟩ := x; exact Heap.lt_size e
 | dT kvs => obtain ⟨_, _, _, _, o, _, _, e, _⟩ := x; exact Heap.lt_size e
 | set S n => obtain ⟨o, _, _, _, e, _⟩ := x; exact Heap.lt_size e
 | ins C dx fs => obtain ⟨_, _, _, e, _⟩ := x; exact Heap.lt_size e
 | own y => obtain ⟨_, e⟩ := x; exact Heap.lt_size e
 | xd fs => obtain ⟨_, ⟨_, _, _, e, _⟩, _⟩ := x; exact Heap.lt_size e
 | rng lo hi => obtain ⟨_, _, _, e⟩ := x; exact Heap.lt_size e
 | frz ob u => obtain ⟨e, _⟩ := x; exact Heap.lt_size e
 | tbl ps => exact Heap.lt_size (show h.get? a = some _ from x)
 | met f y => exact Heap.lt_size (show h.get? a = some _ from x)
 | ext φ => obtain ⟨_, ⟨_, e⟩, _⟩ := x; exact Heap.lt_size e
theorem Paired.mapP {α β : Type} {F G : α → β → Prop} : ∀ {l₁ : List α} {l₂ : List β}, Paired F l₁ l₂ → (∀ a b, F a b → G a b) → Paired G l₁ l₂
 | _, _, .nil, _ => .nil
 | _, _, .cons r t, f => .cons (f _ _ r) (Paired.mapP t f)
theorem As.stay (x : As P w H h a o) (k : ∀ b u, (b = a ∨ H b = some (.own a)) → h.get? b = some u → h'.get? b = some u)
  (ho : ∀ b, H b = some (.own a) → H' b = some (.own a)) (ht : ∀ b xs, H b = some (.tup xs) → H' b = some (.tup xs)) : As P w H' h' a o := by
 induction o with
 | lst xs => obtain ⟨z, its, n, r, e⟩ := x; exact ⟨z, its, n, r, k _ _ (.inl rfl) e⟩
 | tup xs => obtain ⟨z, its, r, ob, e, c⟩ := x; exact ⟨z, its, r, ob, k _ _ (.inl rfl) e, c⟩
 | dK kvs => obtain ⟨z, y, vs, r, ob, es, ep, e, c⟩ := x; exact ⟨z, y, vs, r, ob, es, ep, k _ _ (.inl rfl) e, c⟩
 | dT kvs =>
  obtain ⟨z, y, xs, r, ob, es, ep, e, c⟩ := x
  exact ⟨z, y, xs, Paired.mapP r fun p q z => ⟨z.1, ht _ _ z.2.1, z.2.2⟩, ob, es, ep, k _ _ (.inl rfl) e, c⟩
 | set S n => obtain ⟨ob, es, ep, t, e, c⟩ := x; exact ⟨ob, es, ep, t, k _ _ (.inl rfl) e, c⟩
 | ins C dx fs =>
  obtain ⟨d, z, ne, e, mA, ⟨od, es, ep, e2, c⟩, r⟩ := x
  exact ⟨ho _ d, z, ne, k _ _ (.inl rfl) e, mA, ⟨od, es, ep, k _ _ (.inr d) e2, c⟩, r⟩
 | own y => obtain ⟨ob, e⟩ := x; exact ⟨ob, k _ _ (.inl rfl) e⟩
 | xd fs => obtain ⟨mA, ⟨od, es, ep, e, c⟩, r⟩ := x; exact ⟨mA, ⟨od, es, ep, k _ _ (.inl rfl) e, c⟩, r⟩
 | rng lo hi => obtain ⟨t, u, v, e⟩ := x; exact ⟨t, u, v, k _ _ (.inl rfl) e⟩
 | frz ob u ih => obtain ⟨e, q⟩ := x; exact ⟨k _ _ (.inl rfl) e, ih q⟩
 | tbl ps =>
  have e : h.get? a = some { cls := .none, data := .fields ps } := x
  show h'.get? a = some { cls := .none, data := .fields ps }
  exact k a _ (.inl rfl) e
 | met f y =>
  have e : h.get? a = some (PySem.W.methodObj (.ref f) (.ref y)) := x
  show h'.get? a = some (PySem.W.methodObj (.ref f) (.ref y))
  exact k a _ (.inl rfl) e
 | ext φ => obtain ⟨p, ⟨o, e⟩, st⟩ := x; exact ⟨st _ _ p fun o q => k _ _ (.inl rfl) q, ⟨o, k _ _ (.inl rfl) e⟩, st⟩
theorem HOk.lt (x : HOk P w H h) (e : H a = some o) : a < h.objs.size := (x a o e).lt
theorem HOk.fresh (x : HOk P w H h) (e : h.objs.size ≤ a) : H a = none := by
 cases q : H a with
 | none => rfl
 | some u => exact absurd (Nat.lt_of_lt_of_le (x.lt q) e) (Nat.lt_irrefl _)
theorem HOk.kept (x : HOk P w H h) (k : ∀ b u, h.get? b = some u → h'.get? b = some u) : HOk P w H h' := fun a o e =>
 (x a o e).stay (fun b u _ q => k b u q) (fun _ q => q) fun _ _ q => q
theorem HOk.laid (x : HOk P w H h) (k : ∀ b u, h.get? b = some u → h'.get? b = some u) (hp : h.objs.size ≤ a) (new : As P w (upd H a o) h' a o) : HOk P w (upd H a o) h' := fun b u e => by
 have hn := x.fresh hp
 by_cases hb : b = a
 ·subst hb; rw [AI] at e; cases e; exact new
 ·rw [AF hb] at e
  exact (x b u e).stay (fun c v _ q => k c v q) (fun c q => by rw [AF (AB q hn)]; exact q) fun c xs q => by rw [AF (AB q hn)]; exact q
end
noncomputable def Rd (H : Hp) (a : Addr) (u : HO) : Prop := H a = some u ∨ ∃ o, H a = some (.frz o u)
theorem Rd.ok {P : Program} {w : World} {H : Hp} {h : Heap} {a : Addr} {u : HO} (r : Rd H a u) (x : HOk P w H h) : As P w H h a u := by
 rcases r with r | ⟨o, r⟩
 ·exact x a u r
 ·obtain ⟨_, q⟩ := x a _ r
  exact q
noncomputable def Mut : Option HO → Prop
 | some (.lst _) => True
 | some (.dK _) => True
 | some (.dT _) => True
 | some (.set _ _) => True
 | some (.ins _ _ _) => True
 | some (.ext _) => True
 | _ => False
section
variable {P : Program} {w : World} {H : Hp} {h h' : Heap} {x e : Addr} {o' : HO}
theorem HOk.write (ok : HOk P w H h) (mu : Mut (H x)) (he : e = x ∨ H e = some (.own x)) (k : ∀ b u, b ≠ e → h.get? b = some u → h'.get? b = some u) (heo : ∃ u, h'.get? e = some u)
  (new : As P w (upd H x o') h' x o') : HOk P w (upd H x o') h' := fun b u q => by
 have nown : ∀ c y, H c = some (.own y) → c ≠ x := fun c y r z => by subst z; rw [r] at mu; exact mu
 have ntup : ∀ c xs, H c = some (.tup xs) → c ≠ x := fun c xs r z => by subst z; rw [r] at mu; exact mu
 by_cases hb : b = x
 ·subst hb; rw [AI] at q; cases q; exact new
 ·rw [AF hb] at q
  by_cases hbe : b = e
  ·have q' : H b = some (.own x) := by
    rcases he with z | z
    ·exact absurd (hbe.trans z) hb
    ·rw [hbe]; exact z
   rw [q] at q'; cases q'
   obtain ⟨v, hv⟩ := heo
   exact ⟨v, by rw [hbe]; exact hv⟩
  ·refine (ok b u q).stay (fun c v hc r => k c v ?_ r) (fun c r => by rw [AF (nown c b r)]; exact r) fun c xs r => by rw [AF (ntup c xs r)]; exact r
   rcases hc with rfl | hc
   ·exact hbe
   ·rintro rfl
    rcases he with z | z
    ·exact nown c b hc z
    ·rw [hc] at z; cases z; exact hb rfl
end
structure Un (fs ex : List Addr) (H H' : Hp) (h h' : Heap) : Prop where
 keep : ∀ b o, h.get? b = some o → H b = none → b ∉ fs → b ∉ ex → h'.get? b = some o
 slot : ∀ b o, h.get? b = some o → H b = none → b ∈ fs → b ∉ ex → ∃ sl, h'.get? b = some { o with slots := sl }
 free : ∀ b o, h.get? b = some o → H b = none → b ∉ ex → H' b = none
 there : ∀ b o, h.get? b = some o → b ∉ ex → ∃ o', h'.get? b = some o'
 tups : ∀ b xs, H b = some (.tup xs) → H' b = some (.tup xs)
 frzs : ∀ b o u, H b = some (.frz o u) → H' b = some (.frz o u)
 tbls : ∀ b ps, H b = some (.tbl ps) → ∃ more, H' b = some (.tbl (ps ++ more))
section
variable {fs fs' ex ex' : List Addr} {H H1 H2 : Hp} {h h1 h2 h' : Heap} {a x e : Addr} {o : HO}
theorem Un.any (u : Un fs ex H H1 h h1) {b : Addr} {ob : Obj} (q : h.get? b = some ob) (n : H b = none) (hx : b ∉ ex) : ∃ sl, h1.get? b = some { ob with slots := sl } := by
 by_cases hb : b ∈ fs
 ·exact u.slot b ob q n hb hx
 ·exact ⟨ob.slots, u.keep b ob q n hb hx⟩
theorem Un.kept (k : ∀ b u, h.get? b = some u → h'.get? b = some u) : Un fs ex H H h h' :=
 ⟨fun b ob q _ _ _ => k b ob q, fun b ob q _ _ _ => ⟨ob.slots, k b ob q⟩, fun _ _ _ n _ => n, fun b ob q _ => ⟨ob, k b ob q⟩, fun _ _ q => q, fun _ _ _ q => q, fun _ ps q => ⟨#[], by rw [q]; simp⟩⟩
theorem Un.refl : Un fs ex H H h h := Un.kept fun _ _ q => q
theorem Un.laid (k : ∀ b u, h.get? b = some u → h'.get? b = some u) (hp : h.objs.size ≤ a) (hn : H a = none) : Un fs ex H (upd H a o) h h' where
 keep := fun b u q _ _ _ => k b u q
 slot := fun b u q _ _ _ => ⟨u.slots, k b u q⟩
 free := fun b u q n _ => by rw [AF (Nat.ne_of_lt (Nat.lt_of_lt_of_le (Heap.lt_size q) hp))]; exact n
 there := fun b u q _ => ⟨u, k b u q⟩
 tups := fun b xs q => by rw [AF (AB q hn)]; exact q
 frzs := fun b u xs q => by rw [AF (AB q hn)]; exact q
 tbls := fun b ps q => ⟨#[], by rw [AF (AB q hn), q]; simp⟩
theorem Un.write (mu : Mut (H x)) (he : e = x ∨ H e = some (.own x)) (k : ∀ b u, b ≠ e → h.get? b = some u → h'.get? b = some u) (heo : ∃ u, h'.get? e = some u) : Un fs ex H (upd H x o) h h' := by
 have hx : ∀ b, H b = none → b ≠ x := fun b n z => by subst z; rw [n] at mu; exact mu
 have hb : ∀ b, H b = none → b ≠ e := fun b n z => by
  subst z
  rcases he with r | r
  ·exact hx b n r
  ·rw [n] at r; cases r
 have hm : ∀ b u, H b = some u → ¬ Mut (some u) → b ≠ x := fun b u q nm z => by subst z; rw [q] at mu; exact nm mu
 refine ⟨fun b u q n _ _ => k b u (hb b n) q, fun b u q n _ _ => ⟨u.slots, k b u (hb b n) q⟩, fun b u q n _ => by rw [AF (hx b n)]; exact n, fun b u q _ => ?_,
  fun b xs q => by rw [AF (hm b _ q fun z => z)]; exact q, fun b u xs q => by rw [AF (hm b _ q fun z => z)]; exact q, fun b ps q => ⟨#[], by rw [AF (hm b _ q fun z => z), q]; simp⟩⟩
 by_cases hbe : b = e
 ·subst hbe; exact heo
 ·exact ⟨u, k b u hbe q⟩
end
noncomputable def trk (h : Heap) (H : Hp) : List Addr := (List.range h.objs.size).filter fun a => (H a).isSome
noncomputable def GE (h : Heap) (H : Hp) : Heap := PySem.W.hideAll h (trk h H)
theorem JF (h : Heap) (H : Hp) : (GE h H).objs.size = h.objs.size := PySem.W.hideAll_size _ _
theorem Jm {h : Heap} {H : Hp} {b : Addr} {o : Obj} (e : h.get? b = some o) (n : H b = none) : (GE h H).get? b = some o :=
 PySem.W.hideAll_get _ e fun hm => by
  have q : (H b).isSome = true := (List.mem_filter.mp hm).2
  rw [n] at q; simp at q
theorem LG {h : Heap} {H : Hp} {b : Addr} {o : Obj} (e : (GE h H).get? b = some o) : h.get? b = some o ∧ H b = none := by
 have e' : h.get? b = some o := PySem.W.of_hideAll (trk h H) e
 refine ⟨e', ?_⟩
 cases q : H b with
 | none => rfl
 | some x =>
  have hm : b ∈ trk h H := List.mem_filter.mpr ⟨List.mem_range.mpr (Heap.lt_size e'), by simp [q]⟩
  have z : (GE h H).get? b = none := PySem.W.hideAll_none (trk h H) hm
  rw [z] at e; cases e
structure Mod (K : PySem.W.Frag) (mg : Str → Option Value) (base : Heap) : Prop where
 kin : K.In base
 glob : base.Ns mainGlobals mg
 blt : ∃ mb, base.Ns builtinsNs mb ∧ ∀ x : Str, x ≠ "__name__" → mb x = bootBuiltins x
 nolimit : base.NoLimit
structure Cx where
 prog : Program
 w : World
 K : PySem.W.Frag
 mg : Str → Option Value
 base : Heap
 A : Around
 N : List Str
 s₀ : Shared
 H₀ : Hp
 env : Env
 outer : List Env
 stack : List Env
 ex : List Addr
 fn : Str → Bool
 calm : Bool
 pn : List (Addr × Obj)
 xe : Value → Shared → Prop
noncomputable def frs (l : List Env) : List Addr := l.filterMap (·.frame)
noncomputable abbrev Cx.fs (X : Cx) : List Addr := frs X.outer
noncomputable def Vis (sc : Scope) (x : Str) : Prop := sc.names.lookup x = some .local ∨ sc.names.lookup x = some .cell ∨ sc.names.lookup x = some .free
noncomputable def Loc (sc : Scope) (x : Str) : Prop := sc.names.lookup x = some .local ∨ sc.names.lookup x = some .cell
noncomputable def Look (env : Env) (h : Heap) (m : Str → Option Value) (x : Str) (u : Value) : Prop :=
 (env.kindOf x = some .local ∧ m x = some u) ∨ ((env.kindOf x = some .cell ∨ env.kindOf x = some .free) ∧ ∃ c, env.cells.lookup x = some c ∧ h.IsCell c (some u))
structure Cx.Ok (X : Cx) : Prop where
 mod : Mod X.K X.mg X.base
 kind : X.env.scope.kind = .function
 glob : X.env.globals = mainGlobals
 blt : X.env.builtins = builtinsNs
 above : X.s₀.heap.objs.size ≤ X.env.locals
 inj : ∀ x y c, X.env.cells.lookup x = some c → X.env.cells.lookup y = some c → x = y
 has : ∀ x, (X.env.kindOf x = some .cell ∨ X.env.kindOf x = some .free) → ∃ c, X.env.cells.lookup x = some c
 cab : ∀ x c, X.fn x = true → X.env.cells.lookup x = some c → X.s₀.heap.objs.size ≤ c
 hd : X.calm = true → X.A.handled = none
 frames : X.A.frames = some X.stack
 stk : X.stack = X.outer ∨ (X.stack = X.env :: X.outer ∧ X.env.frame = some X.env.locals)
 exf : ∀ b ∈ X.ex, b ≠ X.env.locals ∧ ∀ x c, X.env.cells.lookup x = some c → c ≠ b
 bs : ∀ b o, X.base.get? b = some o → X.s₀.heap.get? b = some o ∧ X.H₀ b = none
 bsz : X.base.objs.size ≤ X.s₀.heap.objs.size
 noex : ∀ b o, X.base.get? b = some o → b ∉ X.ex
 exfs : ∀ b ∈ X.ex, b ∉ X.fs
 funs : X.s₀.heap.FunFrames X.base X.outer
 frf : ∀ b ∈ X.fs, X.H₀ b = none
structure Inv (X : Cx) (pins : List (Addr × Obj)) (σ : List (Option V)) (H : Hp) (s : Shared) : Prop where
 ok : X.Ok
 os : s.os = X.s₀.os
 bare : AllBare s.gens
 base : Un X.fs X.ex X.H₀ H X.s₀.heap s.heap
 loc : ∃ m, s.heap.Ns X.env.locals m ∧ ∀ (i : Nat) (x : Str) (v : V), X.N[i]? = some x → σ[i]? = some (some v) → Vis X.env.scope x → ∃ u, RelV v u ∧ Look X.env s.heap m x u
 cell : ∀ x c, X.env.cells.lookup x = some c → ∃ v, s.heap.IsCell c v
 free : H X.env.locals = none
 freeC : ∀ x c, X.env.cells.lookup x = some c → H c = none
 pin : ∀ p ∈ X.pn ++ pins, s.heap.get? p.1 = some p.2 ∧ H p.1 = none ∧ p.1 ≠ X.env.locals ∧ p.1 ∉ X.fs ∧ ∀ v, p.2.data ≠ .cell v
 hok : HOk X.prog X.w H s.heap
 len : σ.length = X.N.length
section
variable {X : Cx} {pins : List (Addr × Obj)} {σ : List (Option V)} {H H' : Hp} {s : Shared} {h' : Heap}
theorem Cx.Ok.nofr (ok : X.Ok) {b : Addr} {o : Obj} (e : X.base.get? b = some o) : b ∉ X.fs := fun hb => by
 have := (ok.funs.mem hb).1
 rw [e] at this; cases this
theorem Inv.bs (I : Inv X pins σ H s) : ∀ b o, X.base.get? b = some o → s.heap.get? b = some o ∧ H b = none := fun b o e =>
 ⟨I.base.keep b o (I.ok.bs b o e).1 (I.ok.bs b o e).2 (I.ok.nofr e) (I.ok.noex b o e), I.base.free b o (I.ok.bs b o e).1 (I.ok.bs b o e).2 (I.ok.noex b o e)⟩
theorem Inv.bk (I : Inv X pins σ H s) : ∀ b o, X.base.get? b = some o → s.heap.get? b = some o := fun b o e => (I.bs b o e).1
theorem Inv.mod (I : Inv X pins σ H s) : Mod X.K X.mg X.base := I.ok.mod
theorem Inv.kIn (I : Inv X pins σ H s) : X.K.In s.heap := I.ok.mod.kin.keeps I.bk
theorem Inv.lt (I : Inv X pins σ H s) : X.env.locals < s.heap.objs.size := let ⟨_, hn, _⟩ := I.loc; hn.lt
theorem Inv.sz (I : Inv X pins σ H s) : X.s₀.heap.objs.size ≤ s.heap.objs.size := Nat.le_trans I.ok.above (Nat.le_of_lt I.lt)
theorem Inv.nofs (I : Inv X pins σ H s) {a : Addr} (h : s.heap.objs.size ≤ a) : a ∉ X.fs := fun hb => by
 obtain ⟨_, o, ho, _⟩ := I.ok.funs.mem hb
 exact absurd (Nat.lt_of_lt_of_le (Heap.lt_size ho) (Nat.le_trans I.sz h)) (Nat.lt_irrefl _)
theorem Inv.cne (I : Inv X pins σ H s) : ∀ x c, X.env.cells.lookup x = some c → c ≠ X.env.locals := fun x c e z => by
 obtain ⟨v, o, ho, hd⟩ := I.cell x c e
 obtain ⟨m, ⟨o', es, ep, ho', hd', _⟩, _⟩ := I.loc
 rw [z, ho'] at ho; cases ho; rw [hd'] at hd; cases hd
theorem Inv.funs (I : Inv X pins σ H s) : s.heap.FunFrames X.base X.outer := by
 have all : ∀ (l : List Env), (∀ b ∈ frs l, b ∈ X.fs) → X.s₀.heap.FunFrames X.base l → s.heap.FunFrames X.base l := by
  intro l
  induction l with
  | nil => intro _ _; trivial
  | cons env r ih =>
   intro hs hl
   obtain ⟨hk, ⟨L, o, hf, hn, ho, hd⟩, hr⟩ := hl
   have hL : L ∈ X.fs := hs L (by unfold frs; rw [List.filterMap_cons, hf]; exact List.mem_cons_self)
   obtain ⟨sl, e⟩ := I.base.slot L o ho (I.ok.frf L hL) hL fun z => I.ok.exfs L z hL
   exact ⟨hk, ⟨L, _, hf, hn, e, hd⟩, ih (fun b hb => hs b (by unfold frs; rw [List.filterMap_cons, hf]; exact List.mem_cons_of_mem _ hb)) hr⟩
 exact all X.outer (fun _ hb => hb) I.ok.funs
theorem Inv.stack (I : Inv X pins σ H s) : s.heap.FunFrames X.base X.stack := by
 rcases I.ok.stk with e | ⟨e, hf⟩
 ·rw [e]; exact I.funs
 ·rw [e]
  obtain ⟨m, hn, _⟩ := I.loc
  refine .cons (by rw [I.ok.kind]; decide) hf hn ?_ I.funs
  exact Heap.get?_none_of_le (Nat.le_trans I.ok.bsz I.ok.above)
theorem Inv.stkSub (I : Inv X pins σ H s) : ∀ b ∈ frs X.stack, b ∈ X.env.locals :: X.fs := fun b hb => by
 rcases I.ok.stk with e | ⟨e, hf⟩
 ·rw [e] at hb; exact List.mem_cons_of_mem _ hb
 ·rw [e] at hb
  unfold frs at hb
  rw [List.filterMap_cons, hf] at hb
  exact hb
theorem Inv.stkFree (I : Inv X pins σ H s) : ∀ b ∈ frs X.stack, H b = none := fun b hb => by
 rcases List.mem_cons.mp (I.stkSub b hb) with e | hb
 ·rw [e]; exact I.free
 ·obtain ⟨_, o, ho, _⟩ := I.ok.funs.mem hb
  exact I.base.free b o ho (I.ok.frf b hb) fun z => I.ok.exfs b z hb
theorem Inv.step {g' : Array GenState} {t' : Nat} {d' : Drawn} {ch : List Addr} (I : Inv X pins σ H s)
  (hch : ∀ b ∈ ch, (b ∈ X.ex ∨ X.s₀.heap.objs.size ≤ b) ∧ b ≠ X.env.locals ∧ (∀ x c, X.env.cells.lookup x = some c → c ≠ b) ∧ ∀ p ∈ X.pn ++ pins, p.1 ≠ b)
  (keep : ∀ b o, b ≠ X.env.locals → b ∉ X.fs → b ∉ ch → s.heap.get? b = some o → H b = none → h'.get? b = some o)
  (slot : ∀ b o, b ≠ X.env.locals → b ∈ X.fs → b ∉ ch → s.heap.get? b = some o → H b = none → ∃ sl, h'.get? b = some { o with slots := sl }) (free : ∀ b o, b ∉ ch → s.heap.get? b = some o → H b = none → H' b = none)
  (there : ∀ b o, b ∉ ch → s.heap.get? b = some o → ∃ o', h'.get? b = some o')
  (tups : ∀ b xs, H b = some (.tup xs) → H' b = some (.tup xs)) (frzs : ∀ b o u, H b = some (.frz o u) → H' b = some (.frz o u)) (tbls : ∀ b ps, H b = some (.tbl ps) → ∃ more, H' b = some (.tbl (ps ++ more)))
  (ns : ∀ m, s.heap.Ns X.env.locals m → h'.Ns X.env.locals m) (hok : HOk X.prog X.w H' h') (hg : AllBare g') :
  Inv X pins σ H' { s with heap := h', gens := g', drawn := d', toks := t' } := by
 have neL : ∀ b o, X.s₀.heap.get? b = some o → b ≠ X.env.locals := fun b o e => Nat.ne_of_lt (Nat.lt_of_lt_of_le (Heap.lt_size e) I.ok.above)
 have neC : ∀ b o, X.s₀.heap.get? b = some o → b ∉ X.ex → b ∉ ch := fun b o e hx hb => by
  rcases (hch b hb).1 with z | z
  ·exact hx z
  ·exact absurd (Nat.lt_of_lt_of_le (Heap.lt_size e) z) (Nat.lt_irrefl _)
 have cellK : ∀ x c, X.env.cells.lookup x = some c → ∀ v, s.heap.IsCell c v → h'.IsCell c v := fun x c e v ⟨o, ho, hd⟩ => by
  have nch : c ∉ ch := fun z => (hch c z).2.2.1 x c e rfl
  by_cases hc : c ∈ X.fs
  ·obtain ⟨sl, q⟩ := slot c o (I.cne x c e) hc nch ho (I.freeC x c e)
   exact ⟨_, q, hd⟩
  ·exact ⟨o, keep c o (I.cne x c e) hc nch ho (I.freeC x c e), hd⟩
 refine ⟨I.ok, I.os, hg, ⟨fun b o e n hb hx => ?_, fun b o e n hb hx => ?_, fun b o e n hx => ?_, fun b o e hx => ?_, fun b xs e => tups b xs (I.base.tups b xs e), fun b o xs e => frzs b o xs (I.base.frzs b o xs e), fun b ps e => ?_⟩, ?_, fun x c e => ?_, ?_, fun x c e => ?_, fun p hp => ?_, hok, I.len⟩
 ·exact keep b o (neL b o e) hb (neC b o e hx) (I.base.keep b o e n hb hx) (I.base.free b o e n hx)
 ·obtain ⟨sl, e1⟩ := I.base.slot b o e n hb hx
  obtain ⟨sl', e2⟩ := slot b _ (neL b o e) hb (neC b o e hx) e1 (I.base.free b o e n hx)
  exact ⟨sl', e2⟩
 ·obtain ⟨o', e1⟩ := I.base.there b o e hx
  exact free b o' (neC b o e hx) e1 (I.base.free b o e n hx)
 ·obtain ⟨o', e1⟩ := I.base.there b o e hx
  exact there b o' (neC b o e hx) e1
 ·obtain ⟨m1, e1⟩ := I.base.tbls b ps e
  obtain ⟨m2, e2⟩ := tbls b _ e1
  exact ⟨m1 ++ m2, by rw [e2, Array.append_assoc]⟩
 ·obtain ⟨m, hn, hl⟩ := I.loc
  refine ⟨m, ns m hn, fun i x v e1 e2 e3 => ?_⟩
  obtain ⟨u, r, l⟩ := hl i x v e1 e2 e3
  refine ⟨u, r, ?_⟩
  rcases l with l | ⟨k, c, e, z⟩
  ·exact .inl l
  ·exact .inr ⟨k, c, e, cellK x c e _ z⟩
 ·obtain ⟨v, z⟩ := I.cell x c e
  exact ⟨v, cellK x c e v z⟩
 ·obtain ⟨m, ⟨o, _, _, ho, _⟩, _⟩ := I.loc
  exact free _ o (fun z => (hch _ z).2.1 rfl) ho I.free
 ·obtain ⟨v, o, ho, hd⟩ := I.cell x c e
  exact free c o (fun z => (hch c z).2.2.1 x c e rfl) ho (I.freeC x c e)
 ·obtain ⟨e, n, ne, nf, d⟩ := I.pin p hp
  have nch : p.1 ∉ ch := fun z => (hch p.1 z).2.2.2 p hp rfl
  exact ⟨keep p.1 p.2 ne nf nch e n, free p.1 p.2 nch e n, ne, nf, d⟩
theorem Inv.un {t' : Nat} (I : Inv X pins σ H s) (u : Un X.fs [] H H' s.heap h') (hok : HOk X.prog X.w H' h') : Inv X pins σ H' { s with heap := h', toks := t' } := by
 obtain ⟨m, ⟨o, es, ep, ho, r⟩, _⟩ := id I.loc
 obtain ⟨sl, hL⟩ := u.any ho I.free (by simp)
 exact I.step (g' := s.gens) (d' := s.drawn) (ch := []) (fun _ z => nomatch z) (fun b o _ hb _ e n => u.keep b o e n hb (by simp)) (fun b o _ hb _ e n => u.slot b o e n hb (by simp)) (fun b o _ e n => u.free b o e n (by simp)) (fun b o _ e => u.there b o e (by simp)) u.tups u.frzs u.tbls (fun m' hm => by
  obtain ⟨o', es', ep', ho', r'⟩ := hm
  rw [ho] at ho'; cases ho'
  exact ⟨_, es', ep', hL, r'⟩) hok I.bare
theorem Inv.call {g' : Array GenState} {t' : Nat} {d' : Drawn} {ch : List Addr} (I : Inv X pins σ H s) (u : Un (frs X.stack) ch H H' s.heap h') (hok : HOk X.prog X.w H' h') (hg : AllBare g')
  (hch : ∀ b ∈ ch, (b ∈ X.ex ∨ X.s₀.heap.objs.size ≤ b) ∧ b ≠ X.env.locals ∧ (∀ x c, X.env.cells.lookup x = some c → c ≠ b) ∧ ∀ p ∈ X.pn ++ pins, p.1 ≠ b) :
  Inv X pins σ H' { s with heap := h', gens := g', drawn := d', toks := t' } := by
 obtain ⟨m, ⟨o, es, ep, ho, r⟩, _⟩ := id I.loc
 obtain ⟨sl, hL⟩ := u.any ho I.free fun z => (hch _ z).2.1 rfl
 exact I.step (ch := ch) hch (fun b o hL hb hc e n => u.keep b o e n (fun z => (List.mem_cons.mp (I.stkSub b z)).elim hL hb) hc) (fun b o _ _ hc e n => u.any e n hc) (fun b o hc e n => u.free b o e n hc) (fun b o hc e => u.there b o e hc) u.tups u.frzs u.tbls (fun m' hm => by
  obtain ⟨o', es', ep', ho', r'⟩ := hm
  rw [ho] at ho'; cases ho'
  exact ⟨_, es', ep', hL, r'⟩) hok hg
theorem Inv.turned {t' : Nat} {it : Addr} (I : Inv X pins σ H s) (k : ∀ b o, b ≠ it → s.heap.get? b = some o → h'.get? b = some o) (hn : H it = none) (hL : it ≠ X.env.locals)
  (h1 : it ∈ X.ex ∨ X.s₀.heap.objs.size ≤ it) (h2 : ∀ x c, X.env.cells.lookup x = some c → c ≠ it) (h3 : ∀ p ∈ X.pn ++ pins, p.1 ≠ it) : Inv X pins σ H { s with heap := h', toks := t' } := by
 have nit : ∀ b u, H b = some u → b ≠ it := fun b u e z => by rw [z, hn] at e; cases e
 refine I.step (g' := s.gens) (d' := s.drawn) (ch := [it]) (fun b hb => ?_) (fun b o _ _ hc e _ => k b o (fun z => hc (by simp [z])) e) (fun b o _ _ hc e _ => ⟨o.slots, k b o (fun z => hc (by simp [z])) e⟩) (fun _ _ _ _ n => n)
  (fun b o hc e => ⟨o, k b o (fun z => hc (by simp [z])) e⟩) (fun _ _ e => e) (fun _ _ _ e => e) (fun b ps e => ⟨#[], by rw [e]; simp⟩) (fun m hm => ?_) (fun b u e => ?_) I.bare
 ·have e : b = it := by simpa using hb
  subst e
  exact ⟨h1, hL, h2, h3⟩
 ·obtain ⟨o, es, ep, ho, r⟩ := hm
  exact ⟨o, es, ep, k _ o (Ne.symm hL) ho, r⟩
 ·refine (I.hok b u e).stay (fun c v hc q => k c v ?_ q) (fun _ q => q) fun _ _ q => q
  rcases hc with z | z
  ·rw [z]; exact nit b u e
  ·exact nit c _ z
theorem Inv.tok (I : Inv X pins σ H s) (t : Nat) : Inv X pins σ H { s with toks := t } := I.un (h' := s.heap) (t' := t) Un.refl I.hok
theorem Inv.kept {t' : Nat} (I : Inv X pins σ H s) (k : ∀ b u, s.heap.get? b = some u → h'.get? b = some u) : Inv X pins σ H { s with heap := h', toks := t' } := I.un (Un.kept k) (I.hok.kept k)
theorem Inv.laid {a : Addr} {o : HO} {t' : Nat} (I : Inv X pins σ H s) (k : ∀ b u, s.heap.get? b = some u → h'.get? b = some u) (hp : s.heap.objs.size ≤ a) (new : As X.prog X.w (upd H a o) h' a o) :
  Inv X pins σ (upd H a o) { s with heap := h', toks := t' } := I.un (Un.laid k hp (I.hok.fresh hp)) (I.hok.laid k hp new)
theorem Inv.write {x e : Addr} {o : HO} {t' : Nat} (I : Inv X pins σ H s) (mu : Mut (H x)) (he : e = x ∨ H e = some (.own x)) (k : ∀ b u, b ≠ e → s.heap.get? b = some u → h'.get? b = some u) (heo : ∃ u, h'.get? e = some u)
  (new : As X.prog X.w (upd H x o) h' x o) : Inv X pins σ (upd H x o) { s with heap := h', toks := t' } := I.un (Un.write mu he k heo) (I.hok.write mu he k heo new)
theorem Inv.pins_of {pins' : List (Addr × Obj)} (I : Inv X pins σ H s) (h : ∀ p ∈ pins', s.heap.get? p.1 = some p.2 ∧ H p.1 = none ∧ p.1 ≠ X.env.locals ∧ p.1 ∉ X.fs ∧ ∀ v, p.2.data ≠ .cell v) : Inv X pins' σ H s :=
 ⟨I.ok, I.os, I.bare, I.base, I.loc, I.cell, I.free, I.freeC, fun p hp => (List.mem_append.mp hp).elim (fun z => I.pin p (List.mem_append_left _ z)) (h p), I.hok, I.len⟩
theorem Gx {N : List Str} (hN : N.Nodup) {i j : Nat} {x : Str} (a : N[i]? = some x) (b : N[j]? = some x) : i = j := by
 obtain ⟨h1, e1⟩ := List.getElem?_eq_some_iff.mp a
 obtain ⟨h2, e2⟩ := List.getElem?_eq_some_iff.mp b
 exact (List.getElem_inj hN).mp (e1.trans e2.symm)
theorem Fi {M : Model} {A : Around} {E : Value → Shared → Prop} {i : Nat} {x : Str} {v : V} {u : Value} {Q : Unit → Shared → Prop} (I : Inv X pins σ H s) (hN : X.N.Nodup) (hi : X.N[i]? = some x) (hx : Loc X.env.scope x) (r : RelV v u)
  (h : ∀ s', Inv X pins (σ.set i (some v)) H s' → (∃ a, Heap.SameBut a s.heap s'.heap ∧ (a = X.env.locals ∨ X.env.cells.lookup x = some a)) → Q () s') (hf : X.fn x = true ∨ X.env.scope.names.lookup x = some .local := by first | exact .inl rfl | exact .inr rfl | assumption) : wpAny M A (storeName X.env x u) Q E s := by
 obtain ⟨m, hn, hl⟩ := id I.loc
 have hcls : (X.env.scope.kind == .class || (X.env.scope.kind == .module && X.env.locals != X.env.globals)) = false := by rw [I.ok.kind]; rfl
 have hiσ : i < σ.length := by rw [I.len]; exact (List.getElem?_eq_some_iff.mp hi).1
 have cne := I.cne
 have tracked : ∀ {a : Addr} {h' : Heap}, (∃ o, s.heap.get? a = some o ∧ H a = none) → Heap.SameBut a s.heap h' → HOk X.prog X.w H h' := fun {a h'} ha hs b ob e => by
  obtain ⟨_, _, hfree⟩ := ha
  refine (I.hok b ob e).stay (fun c w' hc q => (hs.2 c ?_).trans q) (fun _ q => q) fun _ _ q => q
  rintro rfl
  rcases hc with rfl | hc
  ·rw [hfree] at e; cases e
  ·rw [hfree] at hc; cases hc
 rcases hx with hk | hk
 ·refine wpAny_storeName_local hk hn (fun h' hn' hs => ?_) hcls
  obtain ⟨oL, _, _, hoL, _⟩ := id hn
  refine h _ ⟨I.ok, I.os, I.bare, ⟨fun b o e n hb hx => ?_, fun b o e n hb hx => ?_, I.base.free, fun b o e hx => ?_, I.base.tups, I.base.frzs, I.base.tbls⟩, ⟨_, hn', fun j y v' e1 e2 e3 => ?_⟩, fun y c e => ?_, I.free, I.freeC, fun p hp => ?_, tracked ⟨oL, hoL, I.free⟩ hs, by simpa using I.len⟩ ⟨_, hs, .inl rfl⟩
  ·exact (hs.2 b (Nat.ne_of_lt (Nat.lt_of_lt_of_le (Heap.lt_size e) I.ok.above))).trans (I.base.keep b o e n hb hx)
  ·obtain ⟨sl, e1⟩ := I.base.slot b o e n hb hx
   exact ⟨sl, (hs.2 b (Nat.ne_of_lt (Nat.lt_of_lt_of_le (Heap.lt_size e) I.ok.above))).trans e1⟩
  ·obtain ⟨o', e1⟩ := I.base.there b o e hx
   exact ⟨o', (hs.2 b (Nat.ne_of_lt (Nat.lt_of_lt_of_le (Heap.lt_size e) I.ok.above))).trans e1⟩
  ·by_cases hj : j = i
   ·subst hj
    rw [hi] at e1; cases e1
    rw [List.getElem?_set_self hiσ] at e2
    cases e2
    exact ⟨u, r, .inl ⟨hk, by simp⟩⟩
   ·rw [List.getElem?_set_ne (Ne.symm hj)] at e2
    obtain ⟨u', r', q⟩ := hl j y v' e1 e2 e3
    refine ⟨u', r', ?_⟩
    rcases q with ⟨k, e⟩ | ⟨k, c, e, z⟩
    ·refine .inl ⟨k, ?_⟩
     have : y ≠ x := fun e => hj (Gx hN e1 (e ▸ hi))
     simp [this, e]
    ·exact .inr ⟨k, c, e, z.sameBut hs (cne y c e)⟩
  ·obtain ⟨w', z⟩ := I.cell y c e
   exact ⟨w', z.sameBut hs (cne y c e)⟩
  ·obtain ⟨e, n, ne, nf, d⟩ := I.pin p hp
   exact ⟨(hs.2 p.1 ne).trans e, n, ne, nf, d⟩
 ·have hfn : X.fn x = true := by
   rcases hf with z | z
   ·exact z
   ·rw [z] at hk; cases hk
  obtain ⟨c, hc⟩ := I.ok.has x (.inl hk)
  obtain ⟨w', z⟩ := I.cell x c hc
  refine wpAny_storeName_cell I.ok.kind hk hc z (fun h' hc' hs => ?_)
  obtain ⟨oc, hoc, hocd⟩ := id z
  refine h { s with heap := h' } ⟨I.ok, I.os, I.bare, ⟨fun b o e n hb hx => ?_, fun b o e n hb hx => ?_, I.base.free, fun b o e hx => ?_, I.base.tups, I.base.frzs, I.base.tbls⟩, ⟨m, hn.sameBut hs (Ne.symm (cne x c hc)), fun j y v' e1 e2 e3 => ?_⟩, fun y c' e => ?_, I.free, I.freeC, fun p hp => ?_, tracked ⟨oc, hoc, I.freeC x c hc⟩ hs, by simpa using I.len⟩ ⟨c, hs, .inr hc⟩
  ·exact (hs.2 b (Nat.ne_of_lt (Nat.lt_of_lt_of_le (Heap.lt_size e) (I.ok.cab x c hfn hc)))).trans (I.base.keep b o e n hb hx)
  ·obtain ⟨sl, e1⟩ := I.base.slot b o e n hb hx
   exact ⟨sl, (hs.2 b (Nat.ne_of_lt (Nat.lt_of_lt_of_le (Heap.lt_size e) (I.ok.cab x c hfn hc)))).trans e1⟩
  ·obtain ⟨o', e1⟩ := I.base.there b o e hx
   exact ⟨o', (hs.2 b (Nat.ne_of_lt (Nat.lt_of_lt_of_le (Heap.lt_size e) (I.ok.cab x c hfn hc)))).trans e1⟩
  ·by_cases hj : j = i
   ·subst hj
    rw [hi] at e1; cases e1
    rw [List.getElem?_set_self hiσ] at e2
    cases e2
    exact ⟨u, r, .inr ⟨.inl hk, c, hc, hc'⟩⟩
   ·rw [List.getElem?_set_ne (Ne.symm hj)] at e2
    obtain ⟨u', r', q⟩ := hl j y v' e1 e2 e3
    refine ⟨u', r', ?_⟩
    rcases q with q | ⟨k, c', e, z'⟩
    ·exact .inl q
    ·refine .inr ⟨k, c', e, z'.sameBut hs ?_⟩
     rintro rfl
     exact hj (Gx hN e1 (I.ok.inj _ _ _ e hc ▸ hi))
  ·by_cases hcc : c' = c
   ·subst hcc; exact ⟨_, hc'⟩
   ·obtain ⟨w2, z2⟩ := I.cell y c' e
    exact ⟨w2, z2.sameBut hs hcc⟩
  ·obtain ⟨e, n, ne, nf, d⟩ := I.pin p hp
   refine ⟨(hs.2 p.1 ?_).trans e, n, ne, nf, d⟩
   intro q
   rw [q, hoc] at e
   have q' : oc = p.2 := Option.some.inj e
   exact d w' (by rw [← q']; exact hocd)
theorem Gr {M : Model} {A : Around} {E : Value → Shared → Prop} {i : Nat} {x : Str} {v : V} {u : Value} {Q : Unit → Shared → Prop} (I : Inv X pins σ H s) (hN : X.N.Nodup) (hi : X.N[i]? = some x) (hx : Loc X.env.scope x) (r : RelV v u)
  (h : ∀ s', Inv X pins (σ.set i (some v)) H s' → Q () s') (hf : X.fn x = true ∨ X.env.scope.names.lookup x = some .local := by first | exact .inl rfl | exact .inr rfl | assumption) : wpAny M A (storeName X.env x u) Q E s :=
 Fi I hN hi hx r (fun s' I' _ => h s' I') hf
theorem Inv.call' {s' : Shared} {ch : List Addr} (I : Inv X pins σ H s) (ho : s'.os = s.os) (u : Un (frs X.stack) ch H H' s.heap s'.heap) (hok : HOk X.prog X.w H' s'.heap) (hg : AllBare s'.gens)
  (hch : ∀ b ∈ ch, (b ∈ X.ex ∨ X.s₀.heap.objs.size ≤ b) ∧ b ≠ X.env.locals ∧ (∀ x c, X.env.cells.lookup x = some c → c ≠ b) ∧ ∀ p ∈ X.pn ++ pins, p.1 ≠ b) : Inv X pins σ H' s' := by
 obtain ⟨h', g', d', t', o'⟩ := s'
 have e : o' = s.os := ho
 subst e
 exact I.call (g' := g') (t' := t') (d' := d') u hok hg hch
end
noncomputable abbrev XK := Value → Option Addr → Hp → Prop
noncomputable abbrev St := List (Option V)
noncomputable abbrev VK := V → Hp → Prop
noncomputable abbrev TE := St → Hp → VK → Prop
noncomputable abbrev TT := St → Hp → (Bool → Hp → Prop) → Prop
noncomputable abbrev TA := St → Hp → (List V → Hp → Prop) → Prop
structure DC where
 nx : St → Hp → Prop
 rt : VK
 bk : St → Hp → Prop := fun _ _ => False
 ct : St → Hp → Prop := fun _ _ => False
noncomputable abbrev TS := DC → St → Hp → Prop
noncomputable def EP (X : Cx) (pins : List (Addr × Obj)) (σ : St) (Q : VK) (u : Value) (s' : Shared) : Prop := ∃ v H', Inv X pins σ H' s' ∧ RelV v u ∧ Q v H'
noncomputable def TP (X : Cx) (pins : List (Addr × Obj)) (σ : St) (Q : Bool → Hp → Prop) (b : Bool) (s' : Shared) : Prop := ∃ H', Inv X pins σ H' s' ∧ Q b H'
noncomputable def AP (X : Cx) (pins : List (Addr × Obj)) (σ : St) (Q : List V → Hp → Prop) (us : List Value) (s' : Shared) : Prop := ∃ vs H', Inv X pins σ H' s' ∧ AT vs us ∧ Q vs H'
noncomputable def SP (X : Cx) (pins : List (Addr × Obj)) (D : DC) (f : Flow) (s' : Shared) : Prop :=
 match f with
 | .next => ∃ σ' H', Inv X pins σ' H' s' ∧ D.nx σ' H'
 | .brk => ∃ σ' H', Inv X pins σ' H' s' ∧ D.bk σ' H'
 | .cont => ∃ σ' H', Inv X pins σ' H' s' ∧ D.ct σ' H'
 | .ret u => ∃ v σ' H', Inv X pins σ' H' s' ∧ RelV v u ∧ D.rt v H'
noncomputable def PE (X : Cx) (e : Expr) (t : TE) : Prop :=
 ∀ (pins : List (Addr × Obj)) (s : Shared) (σ : St) (H : Hp) (Q : VK), Inv X pins σ H s → t σ H Q → wpAny (model X.prog X.w) X.A (eval e X.env) (EP X pins σ Q) X.xe s
noncomputable def PT (X : Cx) (e : Expr) (t : TT) : Prop :=
 ∀ (pins : List (Addr × Obj)) (s : Shared) (σ : St) (H : Hp) (Q : Bool → Hp → Prop), Inv X pins σ H s → t σ H Q → wpAny (model X.prog X.w) X.A (isTrue e X.env (eval e X.env)) (TP X pins σ Q) X.xe s
noncomputable def PW (X : Cx) (e : Expr) (t : TT) : Prop :=
 ∀ (whole : Sem Value) (pins : List (Addr × Obj)) (s : Shared) (σ : St) (H : Hp) (Q : Bool → Hp → Prop), Inv X pins σ H s → t σ H Q → wpAny (model X.prog X.w) X.A (isTrue e X.env whole) (TP X pins σ Q) X.xe s
theorem PW.pt {X : Cx} {e : Expr} {t : TT} (h : PW X e t) : PT X e t := h _
noncomputable def PA (X : Cx) (es : List Expr) (t : TA) : Prop :=
 ∀ (pos : Pos) (pins : List (Addr × Obj)) (s : Shared) (σ : St) (H : Hp) (Q : List V → Hp → Prop), Inv X pins σ H s → t σ H Q → wpAny (model X.prog X.w) X.A (spliced (backTo pos (starEach es X.env))) (AP X pins σ Q) X.xe s
noncomputable def PS (X : Cx) (st : Stmt) (t : TS) : Prop :=
 ∀ (pins : List (Addr × Obj)) (s : Shared) (σ : St) (H : Hp) (D : DC), Inv X pins σ H s → t D σ H → wpAny (model X.prog X.w) X.A (exec st X.env) (SP X pins D) X.xe s
noncomputable def PSs (X : Cx) (st : List Stmt) (t : TS) : Prop :=
 ∀ (pins : List (Addr × Obj)) (s : Shared) (σ : St) (H : Hp) (D : DC), Inv X pins σ H s → t D σ H → wpAny (model X.prog X.w) X.A (execs st X.env) (SP X pins D) X.xe s
theorem thn {α : Type} {t : Sem α} {Q Q' : α → Shared → Prop} {M : Model} {A : Around} {E : Value → Shared → Prop} {s : Shared} (h : wpAny M A t Q E s) (hQ : ∀ a s, Q a s → Q' a s) : wpAny M A t Q' E s := wpAny_mono h hQ fun _ _ x => x
section
variable {X : Cx}
noncomputable def Dy (i : Nat) : TE := fun σ H Q => ∃ v, σ[i]? = some (some v) ∧ Q v H
noncomputable def tC (v : V) : TE := fun _ H Q => Q v H
theorem Oc {i : Nat} {x : Str} {pos : Pos} (hN : X.N[i]? = some x) (hv : Vis X.env.scope x) (hd : (x == ("__debug__" : Str)) = false := by decide) (hcd : (x == ("__classdict__" : Str)) = false := by decide) : PE X (.Name x pos) (Dy i) := by
 intro pins s σ H Q I h
 obtain ⟨v, e, h⟩ := h
 obtain ⟨m, hn, hl⟩ := I.loc
 obtain ⟨u, r, l⟩ := hl i x v hN e hv
 have fin : EP X pins σ Q u s := ⟨v, H, I, r, h⟩
 rcases l with ⟨hk, hm⟩ | ⟨hk, c, hc, hcell⟩
 ·exact wpAny_Name (wpAny_loadName_local I.ok.kind hk hn hm fin) hd
 ·rcases hk with hk | hk
  ·exact wpAny_Name (wpAny_loadName_cell I.ok.kind hk hc hcell fin) hd
  ·exact wpAny_Name (wpAny_loadName_free I.ok.kind hk hc hcell fin hcd) hd
theorem AK {i j pos} : PE X (.Constant (.int i) j pos) (tC (.int i)) := fun _ _ _ H _ I h => wpAny_Constant_int ⟨.int i, H, I.tok _, ⟨_, rfl⟩, h⟩
theorem C1 {b j pos} : PE X (.Constant (.bool b) j pos) (tC (.bl b)) := fun _ _ _ H _ I h => Constant_bool ⟨.bl b, H, I, rfl, h⟩
theorem PM {j pos} : PE X (.Constant .none j pos) (tC .non) := fun _ _ _ H _ I h => Constant_none ⟨.non, H, I, rfl, h⟩
theorem AN {x j pos} : PE X (.Constant (.str x) j pos) (tC (.str x)) := fun _ _ _ H _ I h => Calls.Constant_str ⟨.str x, H, I.tok _, ⟨_, rfl⟩, h⟩
noncomputable def Gl (X : Cx) (x : Str) : Prop := X.env.kindOf x = some .globalImplicit
theorem CH {E : Value → Shared → Prop} {pins : List (Addr × Obj)} {s : Shared} {σ : St} {H : Hp} {x : Str} {u : Value} {pos : Pos} {Q : Value → Shared → Prop} (I : Inv X pins σ H s) (hg : Gl X x) (hm : X.mg x = some u) (h : Q u s)
  (hd : (x == ("__debug__" : Str)) = false := by decide) : wpAny (model X.prog X.w) X.A (eval (.Name x pos) X.env) Q E s :=
 Calls.Name_function_global I.ok.kind hg (Calls.loadGlobal_global (by rw [I.ok.glob]; exact I.mod.glob.keeps I.bk) hm h) hd
theorem Gh {E : Value → Shared → Prop} {pins : List (Addr × Obj)} {s : Shared} {σ : St} {H : Hp} {x : Str} {u : Value} {pos : Pos} {Q : Value → Shared → Prop} (I : Inv X pins σ H s) (hg : Gl X x) (hm : X.mg x = none) (hv : bootBuiltins x = some u) (h : Q u s)
  (hn : x ≠ "__name__" := by decide) (hd : (x == ("__debug__" : Str)) = false := by decide) : wpAny (model X.prog X.w) X.A (eval (.Name x pos) X.env) Q E s := by
 obtain ⟨mb, h1, h2⟩ := I.mod.blt
 exact Calls.Name_function_global I.ok.kind hg (Calls.loadGlobal_builtin (by rw [I.ok.glob]; exact I.mod.glob.keeps I.bk) hm (by rw [I.ok.blt]; exact h1.keeps I.bk) ((h2 x hn).trans hv) h) hd
theorem Cg {x : Str} {v : V} {u : Value} {pos : Pos} (hg : Gl X x) (hm : X.mg x = some u) (r : RelV v u) (hd : (x == ("__debug__" : Str)) = false := by decide) : PE X (.Name x pos) (tC v) :=
 fun _ _ _ H _ I h => CH I hg hm ⟨v, H, I, r, h⟩ hd
theorem Dn {x : Str} {v : V} {u : Value} {pos : Pos} (hg : Gl X x) (hm : X.mg x = none) (hv : bootBuiltins x = some u) (r : RelV v u) (hn : x ≠ "__name__" := by decide) (hd : (x == ("__debug__" : Str)) = false := by decide) : PE X (.Name x pos) (tC v) :=
 fun _ _ _ H _ I h => Gh I hg hm hv ⟨v, H, I, r, h⟩ hn hd
variable {a b : Expr} {ta tb : TE} {pos : Pos}
noncomputable def tB (t : TE) : TT := fun σ H Q => t σ H fun x H1 => ∃ c, x = .bl c ∧ Q c H1
theorem Bt {e : Expr} {t : TE} (h : PE X e t) (he : ∀ whole, isTrue e X.env whole = (do let v ← whole; standAt e.pos; holding [v] (truthy v)) := by intro _; rfl) : PT X e (tB t) := by
 intro pins s σ H Q I hw
 refine isTrue_plain (thn (h pins s σ H _ I hw) fun v s1 ⟨x, H1, I1, r1, q1⟩ => ?_) (he _)
 obtain ⟨d, rfl, q⟩ := q1
 cases r1
 exact wpAny_truthy_bool ⟨H1, I1, q⟩
variable {tA tB' : TT} {rest : List Expr}
noncomputable def Fd (t u : TT) : TT := fun σ H Q => t σ H fun c H1 => if c = true then u σ H1 Q else Q false H1
noncomputable def tOr (t u : TT) : TT := fun σ H Q => t σ H fun c H1 => if c = true then Q true H1 else u σ H1 Q
noncomputable def Fc (t : TT) : TT := fun σ H Q => t σ H fun c H1 => Q (!c) H1
theorem K2 (ha : PT X a tA) : PW X (.BoolOp .And [a] pos) tA := by
 intro wh pins s σ H Q I h
 refine isTrue_and (thn (ha pins s σ H Q I h) fun c s1 e => ?_)
 cases c with
 | true => exact isTrue_and_nil e
 | false => exact e
theorem DD (ha : PT X a tA) : PW X (.BoolOp .Or [a] pos) tA := by
 intro wh pins s σ H Q I h
 refine isTrue_or (thn (ha pins s σ H Q I h) fun c s1 e => ?_)
 cases c with
 | false => exact isTrue_or_nil e
 | true => exact e
theorem M3 (ha : PT X a tA) (hb : PW X (.BoolOp .And (b :: rest) pos) tB') : PW X (.BoolOp .And (a :: b :: rest) pos) (Fd tA tB') := by
 intro wh pins s σ H Q I h
 refine isTrue_and (thn (ha pins s σ H _ I h) fun c s1 zq => ?_)
 obtain ⟨H1, I1, q1⟩ := zq
 cases c with
 | true => exact hb wh pins s1 σ H1 Q I1 q1
 | false => exact ⟨H1, I1, q1⟩
theorem Eh (ha : PT X a tA) (hb : PW X (.BoolOp .Or (b :: rest) pos) tB') : PW X (.BoolOp .Or (a :: b :: rest) pos) (tOr tA tB') := by
 intro wh pins s σ H Q I h
 refine isTrue_or (thn (ha pins s σ H _ I h) fun c s1 zq => ?_)
 obtain ⟨H1, I1, q1⟩ := zq
 cases c with
 | true => exact ⟨H1, I1, q1⟩
 | false => exact hb wh pins s1 σ H1 Q I1 q1
theorem C7 (ha : PT X a tA) : PT X (.UnaryOp .Not a pos) (Fc tA) := by
 intro pins s σ H Q I h
 exact isTrue_not (ha pins s σ H (fun c H1 => Q (!c) H1) I h)
noncomputable def Cy (ta tb : TE) : TE := fun σ H Q => ta σ H fun x H1 => ∃ c, x = .bl c ∧ if c = true then tb σ H1 Q else Q (.bl false) H1
noncomputable def GK (ta tb : TE) : TE := fun σ H Q => ta σ H fun x H1 => ∃ c, x = .bl c ∧ if c = true then Q (.bl true) H1 else tb σ H1 Q
noncomputable def Cz (ta : TE) : TE := fun σ H Q => ta σ H fun x H1 => ∃ c, x = .bl c ∧ Q (.bl (!c)) H1
theorem Of {op} {t : TE} (h : PE X a t) : PE X (.BoolOp op [a] pos) t := fun pins s σ H Q I hw => BoolOp_one (h pins s σ H Q I hw)
theorem Ov (ha : PE X a ta) (hb : PE X (.BoolOp .And (b :: rest) pos) tb) : PE X (.BoolOp .And (a :: b :: rest) pos) (Cy ta tb) := by
 intro pins s σ H Q I h
 refine BoolOp_and (thn (ha pins s σ H _ I h) fun v s1 zq => ?_)
 obtain ⟨x, H1, I1, r1, q1⟩ := zq
 obtain ⟨c, rfl, q1⟩ := q1
 cases r1
 refine wpAny_truthy_bool ?_
 cases c with
 | true => exact hb pins s1 σ H1 Q I1 q1
 | false => exact ⟨.bl false, H1, I1, rfl, q1⟩
theorem Na (ha : PE X a ta) : PE X (.UnaryOp .Not a pos) (Cz ta) := by
 intro pins s σ H Q I h
 refine UnaryOp_ (thn (ha pins s σ H _ I h) fun v s1 zq => ?_)
 obtain ⟨x, H1, I1, r1, q1⟩ := zq
 obtain ⟨c, rfl, q1⟩ := q1
 cases r1
 exact not_of (wpAny_truthy_bool ⟨.bl (!c), H1, I1, rfl, q1⟩)
noncomputable def tIf (t : TT) (ta tb : TE) : TE := fun σ H Q => t σ H fun c H1 => if c = true then ta σ H1 Q else tb σ H1 Q
end
noncomputable def SqL (K : PySem.W.Frag) (H : Hp) (a : Addr) (xs : List V) : Prop :=
 Rd H a (.lst xs) ∨
  ∃ (o : Obj) (its : Array Value) (n : Nat), K.lookup a = some o ∧ o.cls = .type "list" ∧ o.dict = none ∧ o.data = .seq its n ∧ its.size ≤ sizeLine ∧ AT xs its.toList
noncomputable def SqT (K : PySem.W.Frag) (H : Hp) (a : Addr) (xs : List V) : Prop :=
 Rd H a (.tup xs) ∨
  ∃ (o : Obj) (its : Array Value) (n : Nat), K.lookup a = some o ∧ o.cls = .type "tuple" ∧ o.data = .seq its n ∧ its.size ≤ sizeLine ∧ AT xs its.toList
noncomputable def absV : Value → Option V
 | .none => some .non
 | .bool b => some (.bl b)
 | .int i _ => some (.int i)
 | .str x _ => some (.str x)
 | .bytes b _ => some (.byt b)
 | .float b _ => some (.flt b)
 | .ref a => some (.ref a)
 | .type n => some (.ty n)
 | _ => none
theorem RelV.abs {x : V} {u : Value} (r : RelV x u) : absV u = some x := by
 cases x with
 | non => cases r; rfl
 | bl _ => cases r; rfl
 | int _ => obtain ⟨t, rfl⟩ := r; rfl
 | str _ => obtain ⟨t, rfl⟩ := r; rfl
 | byt _ => obtain ⟨t, rfl⟩ := r; rfl
 | flt _ => obtain ⟨t, rfl⟩ := r; rfl
 | ref _ => cases r; rfl
 | ty _ => cases r; rfl
theorem RelV.inj {x y : V} {u : Value} (r : RelV x u) (q : RelV y u) : x = y := Option.some.inj (r.abs.symm.trans q.abs)
theorem AT.inj : ∀ {xs ys : List V} {us : List Value}, AT xs us → AT ys us → xs = ys
 | _, _, _, .nil, .nil => rfl
 | _, _, _, .cons r t, .cons r' t' => by rw [r.inj r', AT.inj t t']
section
variable {X : Cx} {pins : List (Addr × Obj)} {σ : St} {H : Hp} {s : Shared} {a : Addr} {xs ys : List V}
theorem SqL.of {K : PySem.W.Frag} (h : H a = some (.lst xs)) : SqL K H a xs := .inl (.inl h)
theorem SqT.of {K : PySem.W.Frag} (h : H a = some (.tup xs)) : SqT K H a xs := .inl (.inl h)
theorem Inv.list (I : Inv X pins σ H s) (h : SqL X.K H a xs) : ∃ its : List Value, AT xs its ∧ PlainL s.heap a its.toArray ∧ xs.length ≤ sizeLine := by
 rcases h with h | ⟨o, its, n, hk, hc, hd, hs, hz, r⟩
 ·obtain ⟨z, its, n, r, e⟩ := h.ok I.hok
  exact ⟨its, r, ⟨_, n, e, rfl, rfl, rfl⟩, z⟩
 ·refine ⟨its.toList, r, ⟨o, n, I.kIn a o hk, hc, hd, by simpa using hs⟩, ?_⟩
  have e := r.length
  simp only [Array.length_toList] at e
  lia
theorem Inv.tuple (I : Inv X pins σ H s) (h : SqT X.K H a xs) : ∃ its : List Value, AT xs its ∧ IsTup s.heap a its.toArray ∧ xs.length ≤ sizeLine := by
 rcases h with h | ⟨o, its, n, hk, hc, hs, hz, r⟩
 ·obtain ⟨z, its, r, p⟩ := h.ok I.hok
  exact ⟨its, r, p, z⟩
 ·refine ⟨its.toList, r, ⟨o, I.kIn a o hk, hc, n, by simpa using hs⟩, ?_⟩
  have e := r.length
  simp only [Array.length_toList] at e
  lia
theorem Inv.list_inj (I : Inv X pins σ H s) (h : SqL X.K H a xs) (h' : SqL X.K H a ys) : xs = ys := by
 obtain ⟨its, r, ⟨o, n, e, _, _, d⟩, _⟩ := I.list h
 obtain ⟨its', r', ⟨o', n', e', _, _, d'⟩, _⟩ := I.list h'
 rw [e] at e'; cases e'
 rw [d] at d'
 injection d' with d1 _
 have : its = its' := by simpa using congrArg Array.toList d1
 subst this
 exact r.inj r'
theorem Inv.tuple_inj (I : Inv X pins σ H s) (h : SqT X.K H a xs) (h' : SqT X.K H a ys) : xs = ys := by
 obtain ⟨its, r, ⟨o, e, _, n, d⟩, _⟩ := I.tuple h
 obtain ⟨its', r', ⟨o', e', _, n', d'⟩, _⟩ := I.tuple h'
 rw [e] at e'; cases e'
 rw [d] at d'
 injection d' with d1 _
 have : its = its' := by simpa using congrArg Array.toList d1
 subst this
 exact r.inj r'
end
noncomputable abbrev Cx.wish (X : Cx) (E : Value → Shared → Prop) : Cx := { X with xe := E }
noncomputable abbrev Cx.nox (X : Cx) : Cx := X.wish fun _ _ => False
theorem Cx.Ok.wish {X : Cx} (ok : X.Ok) (E : Value → Shared → Prop) : (X.wish E).Ok :=
 ⟨ok.mod, ok.kind, ok.glob, ok.blt, ok.above, ok.inj, ok.has, ok.cab, ok.hd, ok.frames, ok.stk, ok.exf, ok.bs, ok.bsz, ok.noex, ok.exfs, ok.funs, ok.frf⟩
theorem Cx.Ok.unwish {X : Cx} {E : Value → Shared → Prop} (ok : (X.wish E).Ok) : X.Ok :=
 ⟨ok.mod, ok.kind, ok.glob, ok.blt, ok.above, ok.inj, ok.has, ok.cab, ok.hd, ok.frames, ok.stk, ok.exf, ok.bs, ok.bsz, ok.noex, ok.exfs, ok.funs, ok.frf⟩
section
variable {X : Cx} {pins : List (Addr × Obj)} {σ : St} {H : Hp} {s : Shared} {E : Value → Shared → Prop}
theorem Inv.wish (I : Inv X pins σ H s) (E : Value → Shared → Prop) : Inv (X.wish E) pins σ H s := ⟨I.ok.wish E, I.os, I.bare, I.base, I.loc, I.cell, I.free, I.freeC, I.pin, I.hok, I.len⟩
theorem Inv.unwish (I : Inv (X.wish E) pins σ H s) : Inv X pins σ H s := ⟨I.ok.unwish, I.os, I.bare, I.base, I.loc, I.cell, I.free, I.freeC, I.pin, I.hok, I.len⟩
theorem SP.unwish {D : DC} {f : Flow} {s' : Shared} (h : SP (X.wish E) pins D f s') : SP X pins D f s' := by
 cases f with
 | next => obtain ⟨σ', H', I, q⟩ := h; exact ⟨σ', H', I.unwish, q⟩
 | brk => obtain ⟨σ', H', I, q⟩ := h; exact ⟨σ', H', I.unwish, q⟩
 | cont => obtain ⟨σ', H', I, q⟩ := h; exact ⟨σ', H', I.unwish, q⟩
 | ret u => obtain ⟨v, σ', H', I, r, q⟩ := h; exact ⟨v, σ', H', I.unwish, r, q⟩
theorem PSs.nox {st : List Stmt} {t : TS} (h : PSs X.nox st t) : PSs X st t := fun pins s σ H D I hw =>
 wpAny_mono (h pins s σ H D (I.wish _) hw) (fun _ _ q => q.unwish) fun _ _ z => False.elim z
end
section
variable {X : Cx} {st : Stmt} {rest : List Stmt} {t u : TS} {e : Expr} {te : TE} {pos : Pos}
noncomputable def Eo : TS := fun D σ H => D.nx σ H
noncomputable def HL (t u : TS) : TS := fun D σ H => t { D with nx := u D } σ H
theorem AX : PSs X [] Eo := fun _ _ σ H _ I h => wpAny_execs_nil ⟨σ, H, I, h⟩
theorem AG (h1 : PS X st t) (h2 : PSs X rest u) : PSs X (st :: rest) (HL t u) := by
 intro pins s σ H D I h
 refine wpAny_execs_cons (thn (h1 pins s σ H { D with nx := u D } I h) fun f s1 q => ?_)
 cases f with
 | next =>
  obtain ⟨σ', H', I', q⟩ := q
  exact h2 pins s1 σ' H' D I' q
 | ret v => exact q
 | brk => exact q
 | cont => exact q
theorem AD (h1 : PS X st t) : PSs X [st] t := by
 intro pins s σ H D I h
 refine wpAny_execs_cons (thn (h1 pins s σ H D I h) fun f s1 q => ?_)
 cases f with
 | next => exact wpAny_execs_nil q
 | ret v => exact q
 | brk => exact q
 | cont => exact q
noncomputable def D9 : TS := fun D σ H => D.bk σ H
noncomputable def F4 : TS := fun D σ H => D.ct σ H
theorem Inv.quiet {pins : List (Addr × Obj)} {σ : St} {H : Hp} {s : Shared} (I : Inv X pins σ H s) : interactive X.env = false := by simp [interactive, I.ok.kind]
noncomputable def E8 (te : TE) : TS := fun D σ H => te σ H fun _ H1 => D.nx σ H1
theorem A2 (he : PE X e te) (hs : swapsWith e none pos.line X.env = pure false := by rfl) : PS X (.Expr e pos) (E8 te) := by
 intro pins s σ H D I h
 exact wpAny_Expr_any (thn (he pins s σ H _ I h) fun v s1 ⟨x, H1, I1, r1, q1⟩ => ⟨σ, H1, I1, q1⟩) I.quiet hs
noncomputable def Hu (te : TE) : TS := fun D σ H => te σ H D.rt
theorem AL (he : PE X e te) : PS X (.Return (some e) pos) (Hu te) := by
 intro pins s σ H D I h
 exact wpAny_Return_some (thn (he pins s σ H _ I h) fun v s1 ⟨x, H1, I1, r1, q1⟩ => ⟨x, σ, H1, I1, r1, q1⟩)
noncomputable def Fu : TS := fun D _ H => D.rt .non H
noncomputable def GW (c : TT) (t u : TS) : TS := fun D σ H => c σ H fun b H1 => if b = true then t D σ H1 else u D σ H1
theorem Au {c : Expr} {a b : List Stmt} {tc : TT} (hc : PT X c tc) (ha : PSs X a t) (hb : PSs X b u) : PS X (.If c a b pos) (GW tc t u) := by
 intro pins s σ H D I h
 refine wpAny_If (thn (hc pins s σ H _ I h) fun d s1 zq => ?_)
 obtain ⟨H1, I1, q1⟩ := zq
 cases d with
 | true => exact ha pins s1 σ H1 D I1 q1
 | false => exact hb pins s1 σ H1 D I1 q1
end
noncomputable abbrev TG := V → St → Hp → (St → Hp → Prop) → Prop
noncomputable abbrev TGs := List V → St → Hp → (St → Hp → Prop) → Prop
noncomputable def PG (X : Cx) (target : Expr) (t : TG) : Prop :=
 ∀ (pins : List (Addr × Obj)) (s : Shared) (σ : St) (H : Hp) (v : V) (u : Value) (Q : St → Hp → Prop), Inv X pins σ H s → RelV v u → t v σ H Q →
  wpAny (model X.prog X.w) X.A (assign target X.env u) (fun _ s' => ∃ σ' H', Inv X pins σ' H' s' ∧ Q σ' H') X.xe s
noncomputable abbrev TSet := V → V → V → Hp → (Hp → Prop) → Prop
section
variable {X : Cx} {pos : Pos}
noncomputable def Bh (i : Nat) : TG := fun v σ H Q => Q (σ.set i (some v)) H
theorem GY {i : Nat} {x : Str} (hN : X.N.Nodup) (hi : X.N[i]? = some x) (hx : Loc X.env.scope x) (hf : X.fn x = true ∨ X.env.scope.names.lookup x = some .local := by first | exact .inl rfl | exact .inr rfl | assumption) : PG X (.Name x pos) (Bh i) := by
 intro pins s σ H v u Q I r h
 exact wpAny_assign_Name (Gr I hN hi hx r (fun s' I' => ⟨_, H, I', h⟩) hf)
noncomputable def GL : TGs := fun vs σ H Q => vs = [] ∧ Q σ H
noncomputable def Do (t : TG) (u : TGs) : TGs := fun vs σ H Q => ∃ v r, vs = v :: r ∧ t v σ H fun σ' H' => u r σ' H' Q
noncomputable def GR (K : PySem.W.Frag) (n : Nat) (t : TGs) : TG := fun v σ H Q => ∃ a xs, v = .ref a ∧ SqT K H a xs ∧ xs.length = n ∧ t xs σ H Q
noncomputable def GO (to ti : TE) (t : TSet) : TG := fun v σ H Q => to σ H fun o H1 => ti σ H1 fun i H2 => t o i v H2 fun H3 => Q σ H3
noncomputable def GJ (te : TE) (g : TG) : TS := fun D σ H => te σ H fun x H1 => g x σ H1 D.nx
theorem OX {i : Nat} {x : Str} {e : Expr} {te : TE} {pos' : Pos} (hN : X.N.Nodup) (hi : X.N[i]? = some x) (hx : Loc X.env.scope x) (he : PE X e te) (hs : swapsWith e (some (.Name x pos')) pos.line X.env = pure false := by rfl) (hf : X.fn x = true ∨ X.env.scope.names.lookup x = some .local := by first | exact .inl rfl | exact .inr rfl | assumption) :
  PS X (.Assign [.Name x pos'] e pos) (GJ te (Bh i)) := by
 intro pins s σ H D I h
 refine wpAny_Assign_Name (thn (he pins s σ H _ I h) fun v s1 ⟨y, H1, I1, r1, q1⟩ => ?_) hs
 exact Gr I1 hN hi hx r1 (fun s2 I2 => ⟨_, H1, I2, q1⟩) hf
noncomputable def JE (i j : Nat) (ta : TA) : TS := fun D σ H => ta σ H fun vs H1 => ∃ v w, vs = [v, w] ∧ D.nx ((σ.set i (some v)).set j (some w)) H1
end
section
variable {X : Cx} {pos : Pos}
end
structure It where
 go : Nat → Hp → Prop
 yld : Nat → Hp → V → Hp → Prop
 stop : Nat → Hp → Prop
noncomputable def DT (X : Cx) (pins : List (Addr × Obj)) (H : Hp) (b : Addr) : Prop :=
 H b = none ∧ b ≠ X.env.locals ∧ b ∉ X.fs ∧ (b ∈ X.ex ∨ X.s₀.heap.objs.size ≤ b) ∧ (∀ x c, X.env.cells.lookup x = some c → c ≠ b) ∧ ∀ p ∈ X.pn ++ pins, p.1 ≠ b
theorem Inv.fpOk {X : Cx} {pins : List (Addr × Obj)} {σ : St} {H H' : Hp} {s : Shared} {b : Addr} (I : Inv X pins σ H s) (hb : s.heap.objs.size ≤ b) (hn : H' b = none) : DT X pins H' b := by
 refine ⟨hn, Nat.ne_of_gt (Nat.lt_of_lt_of_le I.lt hb), I.nofs hb, .inr (Nat.le_trans I.sz hb), fun x c e z => ?_, fun p hp z => ?_⟩
 ·obtain ⟨v, q⟩ := I.cell x c e
  exact absurd (Nat.lt_of_lt_of_le q.lt (by rw [z]; exact hb)) (Nat.lt_irrefl _)
 ·exact absurd (Nat.lt_of_lt_of_le (Heap.lt_size (I.pin p hp).1) (by rw [z]; exact hb)) (Nat.lt_irrefl _)
structure Hi (P : Program) (w : World) (K : PySem.W.Frag) (tg : Expr) (J : It) (fp : List Addr) (it : Addr) (tn : Nat → Heap → Prop) : Prop where
 mem : it ∈ fp
 obj : ∀ i h, tn i h → ∀ b ∈ fp, ∃ o, h.get? b = some o ∧ ∀ v, o.data ≠ .cell v
 keep : ∀ i h h', tn i h → (∀ b ∈ fp, ∀ o, h.get? b = some o → h'.get? b = some o) → tn i h'
 item : ∀ (X : Cx), X.prog = P → X.w = w → X.K = K → X.calm = true → ∀ (i : Nat) (pins : List (Addr × Obj)) (s : Shared) (σ : St) (H : Hp) (E : Value → Shared → Prop), Inv X pins σ H s → (∀ b ∈ fp, DT X pins H b) → tn i s.heap → J.go i H →
  wpAny (model P w) X.A (pyNext (.ref it)) (fun r s1 => ∃ u, r = some u ∧
   wpAny (model P w) X.A (letOwnedTupleGo tg (.ref it) u) (fun _ s2 => ∃ x H', Inv X pins σ H' s2 ∧ RelV x u ∧ J.yld i H x H' ∧ tn (i + 1) s2.heap ∧ ∀ b ∈ fp, H' b = none) E s1) E s
 done : ∀ (X : Cx), X.prog = P → X.w = w → X.K = K → X.calm = true → ∀ (i : Nat) (pins : List (Addr × Obj)) (s : Shared) (σ : St) (H : Hp) (E : Value → Shared → Prop), Inv X pins σ H s → (∀ b ∈ fp, DT X pins H b) → tn i s.heap → J.stop i H →
  wpAny (model P w) X.A (pyNext (.ref it)) (fun r s1 => r = none ∧ Inv X pins σ H s1) E s
 self : ∀ (A : Around) (i : Nat) (s : Shared) (Q : Value → Shared → Prop) (E : Value → Shared → Prop), tn i s.heap → Q (.ref it) s → wpAny (model P w) A (pyIter (.ref it)) Q E s
noncomputable abbrev TI := St → Hp → (It → Hp → Prop) → Prop
noncomputable def PIE (X : Cx) (pins : List (Addr × Obj)) (σ : St) (tg : Expr) (R : It → Hp → Prop) (itv : Value) (s2 : Shared) : Prop :=
 ∃ (it : Addr) (fp : List Addr) (tn : Nat → Heap → Prop) (J : It) (H' : Hp), itv = .ref it ∧ Inv X pins σ H' s2 ∧ Hi X.prog X.w X.K tg J fp it tn ∧ tn 0 s2.heap ∧ (∀ b ∈ fp, DT X pins H' b) ∧ R J H'
noncomputable def PI (X : Cx) (tg iter : Expr) (wi : TI) : Prop :=
 ∀ (pins : List (Addr × Obj)) (s : Shared) (σ : St) (H : Hp) (R : It → Hp → Prop), Inv X pins σ H s → wi σ H R →
  wpAny (model X.prog X.w) X.A (eval iter X.env) (fun v s1 => wpAny (model X.prog X.w) X.A (pyIter v) (PIE X pins σ tg R) X.xe s1) X.xe s
theorem IB {M : Model} {A : Around} {E : Value → Shared → Prop} {s : Shared} {tg : Expr} {it : Addr} {u : Value} {o : Obj} {n : String} {vs : Array Value} {Q : Unit → Shared → Prop} (ho : s.heap.get? it = some o) (hc : o.cls = .type n) (hd : o.data = .fields vs)
  (hn : ["enumerate", "zip", "dict_itemiterator", "dict_reverseitemiterator", "odict_iterator", "itertools.zip_longest", "itertools.pairwise"].contains n = false) (hQ : Q () s) : wpAny M A (letOwnedTupleGo tg (.ref it) u) Q E s := by
 unfold letOwnedTupleGo
 cases tg <;> first
  | exact wpAny_pure hQ
  | (cases u <;> first
    | exact wpAny_pure hQ
    | (refine wpAny_bind (wpAny_load ho ?_)
       rw [hc, hd]
       show wpAny M A (if (["enumerate", "zip", "dict_itemiterator", "dict_reverseitemiterator", "odict_iterator", "itertools.zip_longest", "itertools.pairwise"].contains n && vs[0]? == some (rawInt _)) = true then _ else _) Q E s
       rw [if_neg (by intro h; rw [hn, Bool.false_and] at h; cases h)]
       exact wpAny_pure hQ))
noncomputable def Itl (K : PySem.W.Frag) (a : Addr) : It :=
 ⟨fun i H => ∃ xs x, SqL K H a xs ∧ xs[i]? = some x, fun i H x H' => H' = H ∧ ∀ xs, SqL K H a xs → xs[i]? = some x, fun i H => ∃ xs, SqL K H a xs ∧ xs.length ≤ i⟩
noncomputable def Itt (K : PySem.W.Frag) (a : Addr) : It :=
 ⟨fun i H => ∃ xs x, SqT K H a xs ∧ xs[i]? = some x, fun i H x H' => H' = H ∧ ∀ xs, SqT K H a xs → xs[i]? = some x, fun i H => ∃ xs, SqT K H a xs ∧ xs.length ≤ i⟩
noncomputable def Itr (lo : Int) (n : Nat) : It := ⟨fun i _ => i < n, fun i H x H' => H' = H ∧ x = .int (lo + i), fun i _ => n ≤ i⟩
theorem Iu {P : Program} {w : World} {K : PySem.W.Frag} {tg : Expr} (a it : Addr) : Hi P w K tg (Itl K a) [it] it (fun i h => h.IsListIter it a i) where
 mem := by simp
 obj := fun i h st b hb => by
  have e : b = it := by simpa using hb
  subst e
  obtain ⟨o, e, c, d⟩ := st
  exact ⟨o, e, fun v z => by rw [d] at z; cases z⟩
 keep := fun i h h' st k => st.at fun o e => k it (by simp) o e
 item := by
  intro X hP hw hK hc i pins s σ H E I hf st hg
  subst hP hw hK
  obtain ⟨xs, x, hq, hx⟩ := hg
  obtain ⟨its, rv, p, hz⟩ := I.list hq
  obtain ⟨u, hu, ru⟩ := rv.get hx
  obtain ⟨f0, f1, f2, f3, f4, f5⟩ := hf it (by simp)
  refine wpAny_pyNext_list_item st p.isList (x := u) (by simpa using hu) fun h' st' sb => ?_
  have I1 : Inv X pins σ H { s with heap := h' } := I.turned (t' := s.toks) (fun b o hb e => (sb.2 b hb).trans e) f0 f1 f3 f4 f5
  obtain ⟨o, e, c, d⟩ := id st'
  exact ⟨u, rfl, IB (s := { s with heap := h' }) e c d (by decide) ⟨x, H, I1, ru, ⟨rfl, fun ys hy => by rw [I.list_inj hy hq]; exact hx⟩, st', fun b hb => (hf b hb).1⟩⟩
 done := by
  intro X hP hw hK hc i pins s σ H E I hf st hg
  subst hP hw hK
  obtain ⟨xs, hq, hx⟩ := hg
  obtain ⟨its, rv, p, hz⟩ := I.list hq
  obtain ⟨f0, f1, f2, f3, f4, f5⟩ := hf it (by simp)
  have hl := rv.length
  exact wpAny_pyNext_list_end (I.ok.hd hc) st p.isList (by simp; lia) fun h' eb => ⟨rfl, I.turned (t' := s.toks) (fun b o hb e => eb b o hb e) f0 f1 f3 f4 f5⟩
 self := fun _ _ _ _ _ st h => wpAny_pyIter_listiter st h
theorem Ho {P : Program} {w : World} {K : PySem.W.Frag} {tg : Expr} (a it : Addr) : Hi P w K tg (Itt K a) [it] it (fun i h => h.IsTupleIter it a i) where
 mem := by simp
 obj := fun i h st b hb => by
  have e : b = it := by simpa using hb
  subst e
  obtain ⟨o, e, c, d⟩ := st
  exact ⟨o, e, fun v z => by rw [d] at z; cases z⟩
 keep := fun i h h' st k => st.at fun o e => k it (by simp) o e
 item := by
  intro X hP hw hK hc i pins s σ H E I hf st hg
  subst hP hw hK
  obtain ⟨xs, x, hq, hx⟩ := hg
  obtain ⟨its, rv, p, hz⟩ := I.tuple hq
  obtain ⟨u, hu, ru⟩ := rv.get hx
  obtain ⟨f0, f1, f2, f3, f4, f5⟩ := hf it (by simp)
  refine wpAny_pyNext_tuple_item st (show s.heap.IsTuple a its.toArray from p) (x := u) (by simpa using hu) fun h' st' sb => ?_
  have I1 : Inv X pins σ H { s with heap := h' } := I.turned (t' := s.toks) (fun b o hb e => (sb.2 b hb).trans e) f0 f1 f3 f4 f5
  obtain ⟨o, e, c, d⟩ := id st'
  exact ⟨u, rfl, IB (s := { s with heap := h' }) e c d (by decide) ⟨x, H, I1, ru, ⟨rfl, fun ys hy => by rw [I.tuple_inj hy hq]; exact hx⟩, st', fun b hb => (hf b hb).1⟩⟩
 done := by
  intro X hP hw hK hc i pins s σ H E I hf st hg
  subst hP hw hK
  obtain ⟨xs, hq, hx⟩ := hg
  obtain ⟨its, rv, p, hz⟩ := I.tuple hq
  obtain ⟨f0, f1, f2, f3, f4, f5⟩ := hf it (by simp)
  have hl := rv.length
  exact wpAny_pyNext_tuple_end (I.ok.hd hc) st (show s.heap.IsTuple a its.toArray from p) (by simp; lia) fun h' eb => ⟨rfl, I.turned (t' := s.toks) (fun b o hb e => eb b o hb e) f0 f1 f3 f4 f5⟩
 self := fun _ _ _ _ _ st h => wpAny_pyIter_tupleiter st h
theorem Hl {P : Program} {w : World} {K : PySem.W.Frag} {tg : Expr} (it : Addr) (lo : Int) (n : Nat) : Hi P w K tg (Itr lo n) [it] it (fun i h => IsRangeIter h it (lo + (i : Nat) * 1) ((n : Int) - (i : Nat)) 1) where
 mem := by simp
 obj := fun i h st b hb => by
  have e : b = it := by simpa using hb
  subst e
  exact ⟨_, st, fun v z => by
   have z' : Data.fields _ = Data.cell v := z
   cases z'⟩
 keep := fun i h h' st k => k it (by simp) _ st
 item := by
  intro X hP hw hK hc i pins s σ H E I hf st hg
  subst hP hw hK
  obtain ⟨f0, f1, f2, f3, f4, f5⟩ := hf it (by simp)
  have W := Walks.range (prog := X.prog) (w := X.w) (I.ok.hd hc) it lo 1 n
  refine W.item i s _ _ hg st fun v h' tk hv st' kk => ?_
  obtain ⟨t, rfl⟩ := hv
  have I1 : Inv X pins σ H { s with heap := h', toks := tk } := I.turned (fun b o hb e => kk b o (by simpa using hb) e) f0 f1 f3 f4 f5
  refine ⟨_, rfl, IB (s := { s with heap := h', toks := tk }) (n := "range_iterator") st' rfl rfl (by decide) ⟨.int (lo + i), H, I1, ⟨t, ?_⟩, ⟨rfl, rfl⟩, st', fun b hb => (hf b hb).1⟩⟩
  rw [Int.mul_one]
 done := by
  intro X hP hw hK hc i pins s σ H E I hf st hg
  subst hP hw hK
  obtain ⟨f0, f1, f2, f3, f4, f5⟩ := hf it (by simp)
  exact wpAny_pyNext_range_end (I.ok.hd hc) st (by have : n ≤ i := hg; lia) fun h' eb => ⟨rfl, I.turned (t' := s.toks) (fun b o hb e => eb b o hb e) f0 f1 f3 f4 f5⟩
 self := fun _ _ _ _ _ st h => wpAny_pyIter_rangeiter st h
section
variable {X : Cx} {tg : Expr}
noncomputable def EH (K : PySem.W.Frag) (tl : TE) : TI := fun σ H R => tl σ H fun x H1 => ∃ a, x = .ref a ∧ (∃ xs, SqL K H1 a xs) ∧ R (Itl K a) H1
noncomputable def PY (K : PySem.W.Frag) (tl : TE) : TI := fun σ H R => tl σ H fun x H1 => ∃ a, x = .ref a ∧ (∃ xs, SqT K H1 a xs) ∧ R (Itt K a) H1
theorem Cj {l : Expr} {tl : TE} (hl : PE X l tl) : PI X tg l (EH X.K tl) := by
 intro pins s σ H R I h
 refine thn (hl pins s σ H _ I h) fun v s1 zq => ?_
 obtain ⟨x, H1, I1, r1, q1⟩ := zq
 obtain ⟨a, e, ⟨xs, hq⟩, q⟩ := q1
 subst e
 cases r1
 obtain ⟨its, rv, p, hz⟩ := I1.list hq
 refine wpAny_pyIter_list p.isList ?_
 refine ⟨s1.heap.objs.size, [s1.heap.objs.size], _, _, H1, rfl, I1.kept (t' := s1.toks) fun b o e => Heap.get?_push_of_some _ e, Iu a _, ⟨_, Heap.get?_push_size _ rfl, rfl, rfl⟩, fun b hb => ?_, q⟩
 have e : b = s1.heap.objs.size := by simpa using hb
 subst e
 exact I1.fpOk (Nat.le_refl _) (I1.hok.fresh (Nat.le_refl _))
theorem Jp {l : Expr} {tl : TE} (hl : PE X l tl) : PI X tg l (PY X.K tl) := by
 intro pins s σ H R I h
 refine thn (hl pins s σ H _ I h) fun v s1 zq => ?_
 obtain ⟨x, H1, I1, r1, q1⟩ := zq
 obtain ⟨a, e, ⟨xs, hq⟩, q⟩ := q1
 subst e
 cases r1
 obtain ⟨its, rv, p, hz⟩ := I1.tuple hq
 refine wpAny_pyIter_tuple (show s1.heap.IsTuple a its.toArray from p) ?_
 refine ⟨s1.heap.objs.size, [s1.heap.objs.size], _, _, H1, rfl, I1.kept (t' := s1.toks) fun b o e => Heap.get?_push_of_some _ e, Ho a _, ⟨_, Heap.get?_push_size _ rfl, rfl, rfl⟩, fun b hb => ?_, q⟩
 have e : b = s1.heap.objs.size := by simpa using hb
 subst e
 exact I1.fpOk (Nat.le_refl _) (I1.hok.fresh (Nat.le_refl _))
theorem KG {pins : List (Addr × Obj)} {σ : St} {H : Hp} {s : Shared} {R : It → Hp → Prop} {E : Value → Shared → Prop} {lo hi : Int} {t u v : Tok} {tk : Nat} (I : Inv X pins σ H s) (h1 : -(2 ^ 62) ≤ lo) (h2 : lo < 2 ^ 62) (h3 : -(2 ^ 62) ≤ hi) (h4 : hi < 2 ^ 62)
  (q : R (Itr lo (hi - lo).toNat) H) : wpAny (model X.prog X.w) X.A (pyIter (.ref s.heap.objs.size)) (PIE X pins σ tg R) E { s with heap := s.heap.push { cls := .type "range", data := .fields #[.int lo t, .int hi u, .int 1 v] }, toks := tk } := by
 refine wpAny_pyIter_range (IsRange.new ..) (small_one h1 h2 h3 h4) ?_
 have I1 : Inv X pins σ H { s with heap := s.heap.push { cls := .type "range", data := .fields #[.int lo t, .int hi u, .int 1 v] }, toks := tk } := I.kept fun b o e => Heap.get?_push_of_some _ e
 refine ⟨(s.heap.push { cls := .type "range", data := .fields #[.int lo t, .int hi u, .int 1 v] }).objs.size, [(s.heap.push { cls := .type "range", data := .fields #[.int lo t, .int hi u, .int 1 v] }).objs.size], _, _, H, rfl,
  I1.kept (t' := tk) fun b o e => Heap.get?_push_of_some _ e, Hl _ lo (hi - lo).toNat, ?_, fun b hb => ?_, q⟩
 ·have e1 : lo + ((0 : Nat) : Int) * 1 = lo := by simp
  have e2 : (((hi - lo).toNat : Nat) : Int) - ((0 : Nat) : Int) = Builtin.Range.rangeSize lo hi 1 := by rw [rangeSize_one]; split <;> lia
  show IsRangeIter _ _ (lo + ((0 : Nat) : Int) * 1) ((((hi - lo).toNat : Nat) : Int) - ((0 : Nat) : Int)) 1
  rw [e1, e2]
  exact Heap.get?_push_size _ rfl
 ·have e : b = (s.heap.push { cls := .type "range", data := .fields #[.int lo t, .int hi u, .int 1 v] }).objs.size := by simpa using hb
  subst e
  exact I1.fpOk (Nat.le_refl _) (I1.hok.fresh (Nat.le_refl _))
noncomputable def Cr (ta : TA) : TI := fun σ H R => ta σ H fun vs H1 => ∃ j : Int, vs = [.int j] ∧ -(2 ^ 62) ≤ j ∧ j < 2 ^ 62 ∧ R (Itr 0 j.toNat) H1
noncomputable def DV (ta : TA) : TI := fun σ H R => ta σ H fun vs H1 => ∃ i j : Int, vs = [.int i, .int j] ∧ (-(2 ^ 62) ≤ i ∧ i < 2 ^ 62 ∧ -(2 ^ 62) ≤ j ∧ j < 2 ^ 62) ∧ R (Itr i (j - i).toNat) H1
theorem Ci {a : Expr} {ta : TA} {p pos : Pos} (hg : Gl X "range") (hm : X.mg "range" = none) (ha : PA X [a] ta) (hs : starEach [a] X.env = [(false, eval a X.env)] := by rfl) : PI X tg (.Call (.Name "range" p) [a] [] pos) (Cr ta) := by
 intro pins s σ H R I h
 refine Call_ (Gh I hg hm boot_range (PyProof.Rows.callWith_type1 (thn (ha pos pins s σ H _ I h) fun us s1 ⟨vs, H1, I1, r1, q1⟩ => ?_) hs rfl))
 obtain ⟨j, e, q1, q2, q⟩ := q1
 subst e
 cases r1 with
 | cons r rr =>
  cases rr
  obtain ⟨t, rfl⟩ := r
  exact call_range_1 (KG I1 (by lia) (by lia) q1 q2 (by simpa using q))
noncomputable def tFor (wi : TI) (g : TG) (tb : TS) : TS := fun D σ H => wi σ H fun J H1 => ∃ W : Nat → Nat → St → Hp → Prop, (∃ m, W 0 m σ H1) ∧ ∀ i m σ H, W i m σ H →
 (J.stop i H ∧ D.nx σ H) ∨ (J.go i H ∧ ∃ N : St → Hp → Prop, (∀ σ' H', N σ' H' → ∃ m', m' < m ∧ W (i + 1) m' σ' H') ∧ ∀ x H', J.yld i H x H' → g x σ H' fun σ2 H2 => tb { D with nx := N, ct := N, bk := D.nx } σ2 H2)
noncomputable def DA (fp : List Addr) (h : Heap) : List (Addr × Obj) := fp.filterMap fun b => (h.get? b).map fun o => (b, o)
theorem Az {fp : List Addr} {h : Heap} {b : Addr} {o : Obj} (hb : b ∈ fp) (e : h.get? b = some o) : (b, o) ∈ DA fp h := List.mem_filterMap.mpr ⟨b, hb, by rw [e]; rfl⟩
theorem Iv {fp : List Addr} {h : Heap} {p : Addr × Obj} (hp : p ∈ DA fp h) : p.1 ∈ fp ∧ h.get? p.1 = some p.2 := by
 obtain ⟨b, hb, e⟩ := List.mem_filterMap.mp hp
 cases q : h.get? b with
 | none => rw [q] at e; cases e
 | some o =>
  rw [q] at e
  have e' : (b, o) = p := Option.some.inj e
  subst e'
  exact ⟨hb, q⟩
theorem Inv.pinned {pins : List (Addr × Obj)} {σ : St} {H : Hp} {s : Shared} {fp : List Addr} (I : Inv X pins σ H s) (hf : ∀ b ∈ fp, DT X pins H b) (ho : ∀ b ∈ fp, ∃ o, s.heap.get? b = some o ∧ ∀ v, o.data ≠ .cell v) : Inv X (pins ++ DA fp s.heap) σ H s :=
 I.pins_of fun p hp => (List.mem_append.mp hp).elim (fun z => I.pin p (List.mem_append_right _ z)) fun z => by
  obtain ⟨hb, e⟩ := Iv z
  obtain ⟨f0, f1, f2, _⟩ := hf p.1 hb
  obtain ⟨o, e', d⟩ := ho p.1 hb
  rw [e] at e'; cases e'
  exact ⟨e, f0, f1, f2, d⟩
theorem Inv.unpinned {pins pl : List (Addr × Obj)} {σ : St} {H : Hp} {s : Shared} (I : Inv X (pins ++ pl) σ H s) : Inv X pins σ H s := I.pins_of fun p hp => I.pin p (List.mem_append_right _ (List.mem_append_left _ hp))
theorem Ex {iter : Expr} {body : List Stmt} {wi : TI} {g : TG} {tb : TS} {pos : Pos} (hp : PassesOwn (model X.prog X.w) X.A X.env X.xe) (hc : X.calm = true) (hi : PI X tg iter wi) (hg : PG X tg g) (hb : PSs X body tb)
  (hs : ∀ x, foldedSetIterable iter X.env x = pure x := by intro _; rfl) : PS X (.For tg iter body [] pos) (tFor wi g tb) := by
 intro pins s σ H D I h
 refine wpAny_For (thn (hi pins s σ H _ I h) fun v s1 h1 => thn h1 fun itv s2 h2 => ?_) hs
 obtain ⟨it, fp, tn, J, H2, e, I2, T, st2, f2, W, ⟨m0, w0⟩, turn⟩ := h2
 subst e
 have stat : ∀ {H' : Hp}, (∀ b ∈ fp, H' b = none) → ∀ b ∈ fp, DT X pins H' b := fun hn b hb => ⟨hn b hb, (f2 b hb).2⟩
 refine codeAny_forLoop_any (fun n s' => ∃ i σ' H', Inv X pins σ' H' s' ∧ tn i s'.heap ∧ (∀ b ∈ fp, H' b = none) ∧ W i n σ' H') ?_ m0 ⟨0, σ, H2, I2, st2, fun b hb => (f2 b hb).1, w0⟩
 rintro n s3 ⟨i, σ3, H3, I3, st3, fr3, w3⟩
 rcases turn i n σ3 H3 w3 with ⟨stop, qn⟩ | ⟨go, N, hN, step⟩
 ·refine wpAny_passesOwn hp (thn (T.done X rfl rfl rfl hc i pins s3 σ3 H3 X.xe I3 (stat fr3) st3 stop) fun r s4 zq => ?_)
  obtain ⟨hr, I4⟩ := zq
  subst hr
  exact wpAny_execs_nil ⟨σ3, H3, I4, qn⟩
 ·refine wpAny_passesOwn hp (thn (T.item X rfl rfl rfl hc i pins s3 σ3 H3 X.xe I3 (stat fr3) st3 go) fun r s4 zq => ?_)
  obtain ⟨u, hr, h4⟩ := zq
  subst hr
  refine wpAny_passesOwn hp (thn h4 fun _ s5 zq => ?_)
  obtain ⟨x, H5, I5, r5, y5, st5, fr5⟩ := zq
  have I5' := I5.pinned (stat fr5) (T.obj _ _ st5)
  refine wpAny_passesOwn hp (thn (hg _ s5 σ3 H5 x u _ I5' r5 (step x H5 y5)) fun _ s6 zq => ?_)
  obtain ⟨σ6, H6, I6, q6⟩ := zq
  refine wpAny_passesOwn hp (thn (hb _ s6 σ6 H6 _ I6 q6) fun f s7 q7 => ?_)
  have again : ∀ {σ7 : St} {H7 : Hp}, Inv X (pins ++ DA fp s5.heap) σ7 H7 s7 → N σ7 H7 → ∃ m, m < n ∧ ∃ i σ' H', Inv X pins σ' H' s7 ∧ tn i s7.heap ∧ (∀ b ∈ fp, H' b = none) ∧ W i m σ' H' := fun {σ7 H7} I7 n7 => by
   obtain ⟨m', hm, w7⟩ := hN σ7 H7 n7
   refine ⟨m', hm, i + 1, σ7, H7, I7.unpinned, T.keep _ _ _ st5 fun b hb o e => (I7.pin (b, o) (List.mem_append_right _ (List.mem_append_right _ (Az hb e)))).1, fun b hb => ?_, w7⟩
   obtain ⟨o, e, d⟩ := T.obj _ _ st5 b hb
   exact (I7.pin (b, o) (List.mem_append_right _ (List.mem_append_right _ (Az hb e)))).2.1
  cases f with
  | next => obtain ⟨σ7, H7, I7, n7⟩ := q7; exact again I7 n7
  | cont => obtain ⟨σ7, H7, I7, n7⟩ := q7; exact again I7 n7
  | brk => obtain ⟨σ7, H7, I7, q7⟩ := q7; exact ⟨σ7, H7, I7.unpinned, q7⟩
  | ret v => obtain ⟨x7, σ7, H7, I7, r7, q7⟩ := q7; exact ⟨x7, σ7, H7, I7.unpinned, r7, q7⟩
end
theorem Kx {K : PySem.W.Frag} {a : Addr} {xs : List V} {g : TG} {tb : TS} {D : DC} {σ : St} {H : Hp} (Pv : Nat → St → Hp → Prop) (h0 : Pv 0 σ H) (hl : ∀ i σ H, i ≤ xs.length → Pv i σ H → SqT K H a xs)
  (hs : ∀ i x σ H, xs[i]? = some x → Pv i σ H → g x σ H fun σ2 H2 => tb { D with nx := Pv (i + 1), ct := Pv (i + 1), bk := D.nx } σ2 H2) (hd : ∀ σ H, Pv xs.length σ H → D.nx σ H) :
  ∃ W : Nat → Nat → St → Hp → Prop, (∃ m, W 0 m σ H) ∧ ∀ i m σ H, W i m σ H →
   ((Itt K a).stop i H ∧ D.nx σ H) ∨ ((Itt K a).go i H ∧ ∃ N : St → Hp → Prop, (∀ σ' H', N σ' H' → ∃ m', m' < m ∧ W (i + 1) m' σ' H') ∧ ∀ x H', (Itt K a).yld i H x H' → g x σ H' fun σ2 H2 => tb { D with nx := N, ct := N, bk := D.nx } σ2 H2) := by
 refine ⟨fun i m σ H => m = xs.length - i ∧ i ≤ xs.length ∧ Pv i σ H, ⟨xs.length, by simp, Nat.zero_le _, h0⟩, ?_⟩
 rintro i m σ H ⟨rfl, hi, p⟩
 have q := hl i σ H hi p
 by_cases hlt : i < xs.length
 ·refine .inr ⟨⟨xs, xs[i], q, by simp [hlt]⟩, Pv (i + 1), fun σ' H' p' => ⟨xs.length - (i + 1), by lia, rfl, hlt, p'⟩, fun x H' y => ?_⟩
  obtain ⟨e, y⟩ := y
  subst e
  exact hs i x σ _ (y xs q) p
 ·have e : i = xs.length := by lia
  subst e
  exact .inl ⟨⟨xs, q, Nat.le_refl _⟩, hd σ H p⟩
theorem Cf {lo : Int} {n : Nat} {g : TG} {tb : TS} {D : DC} {σ : St} {H : Hp} (Pv : Nat → St → Hp → Prop) (h0 : Pv 0 σ H)
  (hs : ∀ i σ H, i < n → Pv i σ H → g (.int (lo + i)) σ H fun σ2 H2 => tb { D with nx := Pv (i + 1), ct := Pv (i + 1), bk := D.nx } σ2 H2) (hd : ∀ σ H, Pv n σ H → D.nx σ H) :
  ∃ W : Nat → Nat → St → Hp → Prop, (∃ m, W 0 m σ H) ∧ ∀ i m σ H, W i m σ H →
   ((Itr lo n).stop i H ∧ D.nx σ H) ∨ ((Itr lo n).go i H ∧ ∃ N : St → Hp → Prop, (∀ σ' H', N σ' H' → ∃ m', m' < m ∧ W (i + 1) m' σ' H') ∧ ∀ x H', (Itr lo n).yld i H x H' → g x σ H' fun σ2 H2 => tb { D with nx := N, ct := N, bk := D.nx } σ2 H2) := by
 refine ⟨fun i m σ H => m = n - i ∧ i ≤ n ∧ Pv i σ H, ⟨n, by simp, Nat.zero_le _, h0⟩, ?_⟩
 rintro i m σ H ⟨rfl, hi, p⟩
 by_cases hlt : i < n
 ·refine .inr ⟨hlt, Pv (i + 1), fun σ' H' p' => ⟨n - (i + 1), by lia, rfl, hlt, p'⟩, fun x H' y => ?_⟩
  obtain ⟨e, y⟩ := y
  subst e y
  exact hs i σ _ hlt p
 ·have e : i = n := by lia
  subst e
  exact .inl ⟨Nat.le_refl _, hd σ H p⟩
noncomputable abbrev R2 := V → V → Hp → VK → Prop
noncomputable def OpR (X : Cx) (f : Value → Value → Sem Value) (r : R2) : Prop :=
 ∀ (pins : List (Addr × Obj)) (s : Shared) (σ : St) (H : Hp) (x y : V) (v u : Value) (Q : VK), Inv X pins σ H s → RelV x v → RelV y u → r x y H Q →
  wpAny (model X.prog X.w) X.A (f v u) (EP X pins σ Q) X.xe s
noncomputable def BF (X : Cx) (f : Value) (r : List V → Hp → VK → Prop) : Prop :=
 ∀ (pins : List (Addr × Obj)) (s : Shared) (σ : St) (H : Hp) (xs : List V) (us : List Value) (Q : VK), Inv X pins σ H s → AT xs us → r xs H Q →
  wpAny (model X.prog X.w) X.A (call f us) (EP X pins σ Q) X.xe s
noncomputable def tOp (r : R2) (ta tb : TE) : TE := fun σ H Q => ta σ H fun x H1 => tb σ H1 fun y H2 => r x y H2 Q
noncomputable def tUn (r : V → Hp → VK → Prop) (ta : TE) : TE := fun σ H Q => ta σ H fun x H1 => r x H1 Q
noncomputable def rI (C : Int → Int → Prop) (g : Int → Int → V) : R2 := fun x y H Q => ∃ i j, x = .int i ∧ y = .int j ∧ C i j ∧ Q (g i j) H
noncomputable def rI0 (g : Int → Int → V) : R2 := fun x y H Q => ∃ i j, x = .int i ∧ y = .int j ∧ Q (g i j) H
noncomputable def rU (g : Int → V) : V → Hp → VK → Prop := fun x H Q => ∃ i, x = .int i ∧ Q (g i) H
section
variable {X : Cx} {a b c : Expr} {ta tb tc : TE} {pos : Pos}
theorem PZ (ha : PE X a ta) (hb : PE X b tb) {pins : List (Addr × Obj)} {s : Shared} {σ : St} {H : Hp} {R : V → V → Hp → Prop} (I : Inv X pins σ H s)
  (h : ta σ H fun x H1 => tb σ H1 fun y H2 => R x y H2) {Q : Value → Shared → Prop} {f : Value → Value → Sem Value}
  (hf : ∀ v u s2 x y H2, Inv X pins σ H2 s2 → RelV x v → RelV y u → R x y H2 → wpAny (model X.prog X.w) X.A (f v u) Q X.xe s2) :
  wpAny (model X.prog X.w) X.A (eval a X.env) (fun v s₁ => wpAny (model X.prog X.w) X.A (eval b X.env) (fun u s₂ => wpAny (model X.prog X.w) X.A (f v u) Q X.xe s₂) X.xe s₁) X.xe s := by
 refine thn (ha pins s σ H _ I h) fun v s1 zq => ?_
 obtain ⟨x, H1, I1, r1, q1⟩ := zq
 refine thn (hb pins s1 σ H1 _ I1 q1) fun u s2 zq => ?_
 obtain ⟨y, H2, I2, r2, q2⟩ := zq
 exact hf v u s2 x y H2 I2 r1 r2 q2
theorem Aj {op : Operator} {r : R2} (ho : OpR X (binaryOp op) r) (ha : PE X a ta) (hb : PE X b tb) : PE X (.BinOp a op b pos) (tOp r ta tb) := by
 intro pins s σ H Q I h
 exact wpAny_BinOp (PZ ha hb I h fun v u s2 x y H2 I2 rx ry q => ho pins s2 σ H2 x y v u Q I2 rx ry q)
theorem opI {f : Value → Value → Sem Value} {C : Int → Int → Prop} {g : Int → Int → Int}
  (rule : ∀ (i j : Int) (t u : Tok) (s : Shared) (Q : Value → Shared → Prop) (E : Value → Shared → Prop), C i j → Q (.int (g i j) s.toks) { s with toks := s.toks + 1 } → wpAny (model X.prog X.w) X.A (f (.int i t) (.int j u)) Q E s) :
  OpR X f (rI C fun i j => .int (g i j)) := by
 intro pins s σ H x y v u Q I rx ry h
 obtain ⟨i, j, rfl, rfl, hc, q⟩ := h
 obtain ⟨t, rfl⟩ := rx
 obtain ⟨t', rfl⟩ := ry
 exact rule i j t t' s _ _ hc ⟨.int (g i j), H, I.tok _, ⟨_, rfl⟩, q⟩
theorem opI0 {f : Value → Value → Sem Value} {g : Int → Int → Int}
  (rule : ∀ (i j : Int) (t u : Tok) (s : Shared) (Q : Value → Shared → Prop) (E : Value → Shared → Prop), Q (.int (g i j) s.toks) { s with toks := s.toks + 1 } → wpAny (model X.prog X.w) X.A (f (.int i t) (.int j u)) Q E s) :
  OpR X f (rI0 fun i j => .int (g i j)) := by
 intro pins s σ H x y v u Q I rx ry h
 obtain ⟨i, j, rfl, rfl, q⟩ := h
 obtain ⟨t, rfl⟩ := rx
 obtain ⟨t', rfl⟩ := ry
 exact rule i j t t' s _ _ ⟨.int (g i j), H, I.tok _, ⟨_, rfl⟩, q⟩
theorem OL {f : Value → Value → Sem Value} {g : Int → Int → Bool}
  (rule : ∀ (i j : Int) (t u : Tok) (s : Shared) (Q : Value → Shared → Prop) (E : Value → Shared → Prop), Q (.bool (g i j)) s → wpAny (model X.prog X.w) X.A (f (.int i t) (.int j u)) Q E s) :
  OpR X f (rI0 fun i j => .bl (g i j)) := by
 intro pins s σ H x y v u Q I rx ry h
 obtain ⟨i, j, rfl, rfl, q⟩ := h
 obtain ⟨t, rfl⟩ := rx
 obtain ⟨t', rfl⟩ := ry
 exact rule i j t t' s _ _ ⟨.bl (g i j), H, I, rfl, q⟩
noncomputable def HX (i j : Int) : Prop := 0 < j ∧ j < 1073741824
noncomputable def Ix (i j : Int) : Prop := 0 ≤ j ∧ j ≤ 1000000 ∧ i.natAbs < 2 ^ 64
noncomputable def Iz (i j : Int) : Prop := (-(2 ^ 64) < i ∧ i < 2 ^ 64) ∨ (-(2 ^ 64) < j ∧ j < 2 ^ 64)
theorem OI : OpR X (binaryOp .Add) (rI0 fun i j => .int (i + j)) := opI0 fun _ _ _ _ _ _ _ q => add_int q
theorem Ht : OpR X (binaryOp .Sub) (rI0 fun i j => .int (i - j)) := opI0 fun _ _ _ _ _ _ _ q => sub_int q
theorem Gn : OpR X (binaryOp .FloorDiv) (rI HX fun i j => .int (i / j)) := opI fun i j _ _ _ _ _ hc q => by
 have h1 : (0 : Int) < j := hc.1
 have h2 : j < 1073741824 := hc.2
 exact floordiv_int (by lia) (by rw [Int.fdiv_eq_ediv_of_nonneg i (by lia)]; exact q) (.inl (PyProof.noPylong_small (by lia)))
theorem FB : OpR X (binaryOp .Mod) (rI (fun _ j => 0 < j) fun i j => .int (i % j)) := opI fun i j _ _ _ _ _ hc q => by
 have h1 : (0 : Int) < j := hc
 exact mod_int' (by lia) (by rw [Int.fmod_eq_emod_of_nonneg i (by lia)]; exact q)
end
noncomputable def knd : V → Nat
 | .non => 0 | .int _ => 1 | .bl _ => 2 | .str _ => 3 | .byt _ => 4 | _ => 5
noncomputable def Cm (x y : V) : Bool := (knd x == knd y && Nat.blt (knd x) 5) || (Nat.blt (knd x) 4 && Nat.blt (knd y) 4 && knd x * knd y != 2)
noncomputable def rEq : R2 := fun x y H Q => Cm x y = true ∧ Q (.bl (decide (x = y))) H
noncomputable def rNe : R2 := fun x y H Q => Cm x y = true ∧ Q (.bl (!decide (x = y))) H
theorem IR {i j : Int} : decide (V.int i = V.int j) = (i == j) := by
 rw [Bool.eq_iff_iff]
 simp
theorem KI {i j : Bool} : decide (V.bl i = V.bl j) = (i == j) := by
 rw [Bool.eq_iff_iff]
 simp
theorem IP {i j : Str} : decide (V.str i = V.str j) = (i == j) := by
 rw [Bool.eq_iff_iff]
 simp
theorem IG {i j : Array UInt8} : decide (V.byt i = V.byt j) = (i.toList == j.toList) := by
 rw [Bool.eq_iff_iff]
 cases i
 cases j
 simp
section
variable {X : Cx} {a b c : Expr} {ta tb tc : TE} {pos : Pos}
theorem AV {pins : List (Addr × Obj)} {σ : St} {H : Hp} {s : Shared} {Q : VK} {k k' : Bool} (I : Inv X pins σ H s) (q : Q (.bl k) H) (e : k = k') : EP X pins σ Q (.bool k') s := by
 subst e
 exact ⟨.bl k, H, I, rfl, q⟩
theorem Jj : OpR X (compareOp .Eq) rEq := by
 intro pins s σ H x y v u Q I rx ry h
 obtain ⟨hs, q⟩ := h
 cases x with
 | non =>
  cases rx
  cases y with
  | non => cases ry; exact PySem.EqNone.eq_none_none (AV I q (by simp))
  | bl j => cases ry; exact PySem.EqNone.eq_none_bool (AV I q (by simp))
  | int j => obtain ⟨t', rfl⟩ := ry; exact PySem.EqNone.eq_none_int (AV I q (by simp))
  | str j => obtain ⟨t', rfl⟩ := ry; exact PySem.EqNone.eq_none_str (AV I q (by simp))
  | _ => exact absurd (show false = true from hs) Bool.false_ne_true
 | bl i =>
  cases rx
  cases y with
  | non => cases ry; exact PySem.EqNone.eq_bool_none (AV I q (by simp))
  | bl j => cases ry; exact eq_bool (AV I q KI)
  | str j => obtain ⟨t', rfl⟩ := ry; exact PySem.EqMixed.eq_bool_str (AV I q (by simp))
  | _ => exact absurd (show false = true from hs) Bool.false_ne_true
 | int i =>
  obtain ⟨t, rfl⟩ := rx
  cases y with
  | non => cases ry; exact PySem.EqNone.eq_int_none (AV I q (by simp))
  | int j => obtain ⟨t', rfl⟩ := ry; exact eq_int (AV I q IR)
  | str j => obtain ⟨t', rfl⟩ := ry; exact PySem.EqMixed.eq_int_str (AV I q (by simp))
  | _ => exact absurd (show false = true from hs) Bool.false_ne_true
 | str i =>
  obtain ⟨t, rfl⟩ := rx
  cases y with
  | non => cases ry; exact PySem.EqNone.eq_str_none (AV I q (by simp))
  | bl j => cases ry; exact PySem.EqMixed.eq_str_bool (AV I q (by simp))
  | int j => obtain ⟨t', rfl⟩ := ry; exact PySem.EqMixed.eq_str_int (AV I q (by simp))
  | str j => obtain ⟨t', rfl⟩ := ry; exact eq_str (AV I q IP)
  | _ => exact absurd (show false = true from hs) Bool.false_ne_true
 | byt i =>
  obtain ⟨t, rfl⟩ := rx
  cases y with
  | byt j => obtain ⟨t', rfl⟩ := ry; exact PySem.W.eq_bytes (AV I q IG)
  | _ => exact absurd (show false = true from hs) Bool.false_ne_true
 | _ => cases y <;> exact absurd (show false = true from hs) Bool.false_ne_true
theorem Fq : OpR X (compareOp .NotEq) rNe := by
 intro pins s σ H x y v u Q I rx ry h
 obtain ⟨hs, q⟩ := h
 cases x with
 | non =>
  cases rx
  cases y with
  | non => cases ry; exact PySem.EqNone.ne_none_none (AV I q (by simp))
  | bl j => cases ry; exact PySem.EqNone.ne_none_bool (AV I q (by simp))
  | int j => obtain ⟨t', rfl⟩ := ry; exact PySem.EqNone.ne_none_int (AV I q (by simp))
  | str j => obtain ⟨t', rfl⟩ := ry; exact PySem.EqNone.ne_none_str (AV I q (by simp))
  | _ => exact absurd (show false = true from hs) Bool.false_ne_true
 | bl i =>
  cases rx
  cases y with
  | non => cases ry; exact PySem.EqNone.ne_bool_none (AV I q (by simp))
  | bl j => cases ry; exact ne_bool (AV I q (congrArg not KI))
  | str j => obtain ⟨t', rfl⟩ := ry; exact PySem.EqMixed.ne_bool_str (AV I q (by simp))
  | _ => exact absurd (show false = true from hs) Bool.false_ne_true
 | int i =>
  obtain ⟨t, rfl⟩ := rx
  cases y with
  | non => cases ry; exact PySem.EqNone.ne_int_none (AV I q (by simp))
  | int j => obtain ⟨t', rfl⟩ := ry; exact ne_int (AV I q (congrArg not IR))
  | str j => obtain ⟨t', rfl⟩ := ry; exact PySem.EqMixed.ne_int_str (AV I q (by simp))
  | _ => exact absurd (show false = true from hs) Bool.false_ne_true
 | str i =>
  obtain ⟨t, rfl⟩ := rx
  cases y with
  | non => cases ry; exact PySem.EqNone.ne_str_none (AV I q (by simp))
  | bl j => cases ry; exact PySem.EqMixed.ne_str_bool (AV I q (by simp))
  | int j => obtain ⟨t', rfl⟩ := ry; exact PySem.EqMixed.ne_str_int (AV I q (by simp))
  | str j => obtain ⟨t', rfl⟩ := ry; exact ne_str (AV I q (congrArg not IP))
  | _ => exact absurd (show false = true from hs) Bool.false_ne_true
 | byt i =>
  obtain ⟨t, rfl⟩ := rx
  cases y with
  | byt j => obtain ⟨t', rfl⟩ := ry; exact PySem.W.ne_bytes (AV I q (congrArg not IG))
  | _ => exact absurd (show false = true from hs) Bool.false_ne_true
 | _ => cases y <;> exact absurd (show false = true from hs) Bool.false_ne_true
theorem IT : OpR X (compareOp .Lt) (rI0 fun i j => .bl (decide (i < j))) := OL fun _ _ _ _ _ _ _ q => lt_int q
theorem ID : OpR X (compareOp .Gt) (rI0 fun i j => .bl (decide (j < i))) := OL fun _ _ _ _ _ _ _ q => gt_int q
theorem LY : OpR X (compareOp .GtE) (rI0 fun i j => .bl (decide (j ≤ i))) := OL fun _ _ _ _ _ _ _ q => ge_int q
theorem Ir : OpR X (compareOp .In) (fun x y H Q => ∃ i j, x = .str i ∧ y = .str j ∧ Q (.bl (!(Builtin.Str.occurrences j i 0 j.length 1).isEmpty)) H) := by
 intro pins s σ H x y v u Q I rx ry h
 obtain ⟨i, j, rfl, rfl, q⟩ := h
 obtain ⟨t, rfl⟩ := rx
 obtain ⟨t', rfl⟩ := ry
 exact in_str (AV I q rfl)
theorem Nf : OpR X (compareOp .Is) (fun x y H Q => y = .non ∧ Q (.bl (decide (x = .non))) H) := by
 intro pins s σ H x y v u Q I rx ry h
 obtain ⟨rfl, q⟩ := h
 cases ry
 refine is_none_gen (AV I q ?_)
 cases x <;> first
  | (cases rx; rfl)
  | (obtain ⟨t, rfl⟩ := rx; rfl)
theorem ML (b : Expr) {op : CmpOp} (h : op ≠ .In := by decide) (h2 : op ≠ .NotIn := by decide) : behindInMarks op b = false := by
 have e1 : (op == CmpOp.In) = false := by cases op <;> first | rfl | exact absurd rfl h
 have e2 : (op == CmpOp.NotIn) = false := by cases op <;> first | rfl | exact absurd rfl h2
 cases b <;> simp [behindInMarks, e1, e2]
theorem IE {op : CmpOp} {r : R2} (ho : OpR X (compareOp op) r) (ha : PE X a ta) (hb : PE X b tb) (hm : behindInMarks op b = false) : PE X (.Compare a [op] [b] pos) (tOp r ta tb) := by
 intro pins s σ H Q I h
 exact wpAny_Compare1 (PZ ha hb I h fun v u s2 x y H2 I2 rx ry q => ho pins s2 σ H2 x y v u Q I2 rx ry q) hm
noncomputable def CQ (t : TE) : TT := fun σ H Q => t σ H fun x H' => ∃ k, x = .bl k ∧ Q k H'
theorem LI {op : CmpOp} {r : R2} (ho : OpR X (compareOp op) r) (ha : PE X a ta) (hb : PE X b tb) (hm : behindInMarks op b = false) : PT X (.Compare a [op] [b] pos) (CQ (tOp r ta tb)) := by
 intro pins s σ H Q I h
 refine wpAny_isTrue_Compare1 (thn (ha pins s σ H _ I h) fun v s1 ⟨x, H1, I1, r1, q1⟩ => thn (hb pins s1 σ H1 _ I1 q1) fun u s2 ⟨y, H2, I2, r2, q2⟩ =>
  thn (ho pins s2 σ H2 x y v u _ I2 r1 r2 q2) fun c s3 ⟨z, H3, I3, r3, k, e, q3⟩ => ?_) hm
 subst e
 cases r3
 exact wpAny_truthy_bool ⟨H3, I3, q3⟩
theorem F7 : (sizeLine : Nat) < 2 ^ 63 := by rw [sizeLine_eq]; decide
theorem Ah : OpR X (binaryOp .Add) (fun x y H Q => ∃ i j, x = .str i ∧ y = .str j ∧ i.length + j.length ≤ sizeLine ∧ Q (.str (i ++ j)) H) := by
 intro pins s σ H x y v u Q I rx ry h
 obtain ⟨i, j, rfl, rfl, hz, q⟩ := h
 obtain ⟨t, rfl⟩ := rx
 obtain ⟨t', rfl⟩ := ry
 exact add_str (fun t' tk => ⟨.str (i ++ j), H, I.tok _, ⟨_, rfl⟩, q⟩) hz
theorem vals1 {x : V} {us : List Value} (r : AT [x] us) : ∃ u, us = [u] ∧ RelV x u := by
 cases r with
 | cons r1 r2 => cases r2; exact ⟨_, rfl, r1⟩
theorem vals2 {x y : V} {us : List Value} (r : AT [x, y] us) : ∃ u w', us = [u, w'] ∧ RelV x u ∧ RelV y w' := by
 cases r with
 | cons r1 r2 =>
  cases r2 with
  | cons r3 r4 => cases r4; exact ⟨_, _, rfl, r1, r3⟩
theorem JM (hc : X.calm = true) : BF X (.builtin "max") (fun xs H Q => ∃ i j, xs = [.int i, .int j] ∧ Q (.int (if j > i then j else i)) H) := by
 intro pins s σ H xs us Q I r h
 obtain ⟨i, j, rfl, q⟩ := h
 obtain ⟨u, w', rfl, ⟨t, rfl⟩, ⟨t', rfl⟩⟩ := vals2 r
 refine max_two_ints (I.ok.hd hc) fun h' tk k => ⟨_, H, I.kept k, ?_, q⟩
 by_cases hj : j > i
 ·rw [if_pos hj, if_pos hj]; exact ⟨_, rfl⟩
 ·rw [if_neg hj, if_neg hj]; exact ⟨_, rfl⟩
theorem JL (hc : X.calm = true) : BF X (.builtin "min") (fun xs H Q => ∃ i j, xs = [.int i, .int j] ∧ Q (.int (if j < i then j else i)) H) := by
 intro pins s σ H xs us Q I r h
 obtain ⟨i, j, rfl, q⟩ := h
 obtain ⟨u, w', rfl, ⟨t, rfl⟩, ⟨t', rfl⟩⟩ := vals2 r
 refine min_two_ints (I.ok.hd hc) fun h' tk k => ⟨_, H, I.kept k, ?_, q⟩
 by_cases hj : j < i
 ·rw [if_pos hj, if_pos hj]; exact ⟨_, rfl⟩
 ·rw [if_neg hj, if_neg hj]; exact ⟨_, rfl⟩
theorem Ak : BF X (.type "str") (fun xs H Q => ∃ i, xs = [.int i] ∧ i.natAbs.log2 < 1920 ∧ Q (.str (toString i)) H) := by
 intro pins s σ H xs us Q I r h
 obtain ⟨i, rfl, hz, q⟩ := h
 obtain ⟨u, rfl, t, rfl⟩ := vals1 r
 exact PySem.P.str_of_int hz ⟨.str _, H, I.tok _, ⟨_, rfl⟩, q⟩
end
structure Hv (h : Heap) (x dx C : Addr) (mA : Str → Option Value) : Prop where
 obj : h.get? x = some (PySem.W.instObj C dx)
 ns : h.Ns1 dx mA
 ne : dx ≠ x
theorem Ie {h : Heap} {dx : Addr} {mA : Str → Option Value} (n : h.Ns1 dx mA) : ∃ od, h.get? dx = some od ∧ ∀ name, PySem.W.lookIn name od = some (mA name) := by
 obtain ⟨o, es, ep, ho, hd, hk, _, hm⟩ := n
 refine ⟨o, ho, fun name => ?_⟩
 have e := hm name
 unfold nsFind findBy at e
 rw [← Array.find?_toList] at e
 unfold PySem.W.lookIn
 rw [hd]
 dsimp only
 split
 ·rename_i y q
  rw [q] at e
  exact congrArg some e
 ·rename_i q
  rw [q] at e
  have a : es.toList.any (·.refKey) = false := by
   rw [List.any_eq_false]
   intro y hy
   obtain ⟨z, t, hkey⟩ := hk y (Array.mem_toList_iff.mp hy)
   simp [DictEntry.refKey, hkey]
  have a' : ¬ es.toList.any (·.refKey) = true := by rw [a]; exact Bool.false_ne_true
  rw [if_neg a']
  exact congrArg some e
theorem Hv.look {h : Heap} {x dx C : Addr} {mA : Str → Option Value} (I : Hv h x dx C mA) : ∃ od, PySem.W.InstAt h x (PySem.W.instObj C dx) C (some od) ∧ ∀ name, PySem.W.lookIn name od = some (mA name) :=
 let ⟨od, ho, hl⟩ := Ie I.ns
 ⟨od, ⟨I.obj, rfl, rfl, ho⟩, hl⟩
section
variable {prog : Program} {w : World} {A : Around} {E : Value → Shared → Prop} {s : Shared} {K : PySem.W.Frag} {x dx C f : Addr} {mA : Str → Option Value} {name : Str} {v : Value}
theorem Ka {expr : Bool} {Q : Value → Shared → Prop} (X : K.In s.heap) (I : Hv s.heap x dx C mA) (hg : PySem.W.plainGet K C name = true) (hh : PySem.W.hasDictIn K C = true)
  (ha : PySem.W.findIn K (.ref C) name = some none) (hv : mA name = some v) (hv' : PySem.W.handedIn v = true) (h : Q v { s with toks := s.toks + 1 }) :
  wpAny (model prog w) A (getAttr (.ref x) name expr) Q E s := by
 obtain ⟨od, J, hl⟩ := I.look
 exact PySem.W.get_value X J (PySem.W.plainGet_of hg).1 (PySem.W.findObj_own hh ha rfl (by rw [hl, hv])) hv' h
theorem J7 {pl : Sem Bool} {Q : Value × List Value → Shared → Prop} (X : K.In s.heap) (I : Hv s.heap x dx C mA) (hg : PySem.W.plainGet K C name = true)
  (hf : PySem.W.findIn K (.ref C) name = some (some (.ref f))) (ht : PySem.W.isFn K (.ref f) = true) (hv : mA name = none) (h : Q (.ref f, [.ref x]) s) :
  wpAny (model prog w) A (getMethod (.ref x) name pl) Q E s := by
 obtain ⟨od, J, hl⟩ := I.look
 exact PySem.W.method_fn X J (PySem.W.plainGet_of hg).1 (PySem.W.plainGet_of hg).2 hf (beq_iff_eq.mp ht) (by show (PySem.W.lookIn name od).map (·.isSome) = some false; rw [hl, hv]; rfl) h
theorem K6 {ns : List Str} {Q : Unit → Shared → Prop} (X : K.In s.heap) (I : Hv s.heap x dx C mA)
  (hs : PySem.W.findIn K (.ref C) "__setattr__" = some (some (.builtin "object.__setattr__"))) (hp : PySem.W.plainOver K C = true) (ht : PySem.W.takerIn K C name = some none) (hh : PySem.W.hasDictIn K C = true)
  (hw : PySem.Within mA ns) (hsz : ns.length ≤ sizeLine)
  (h : ∀ h', Hv h' x dx C (fun y => if y = name then some v else mA y) → Heap.SameBut dx s.heap h' → Q () { s with heap := h', toks := s.toks + 2 }) :
  wpAny (model prog w) A (setAttr (.ref x) name v) Q E s := by
 obtain ⟨od, J, hl⟩ := I.look
 refine PySem.W.set_plain X J hs (PySem.W.osa_open (s := { s with toks := s.toks + 1 }) (r := none) X J hp ht fun b => ?_)
 obtain ⟨cd, hc, hd'⟩ := PySem.W.any_some hh
 have hx : s.heap.get? x = some ⟨.ref C, some dx, .plain, #[]⟩ := I.obj
 refine wpAny_bind (wpAny_pure (wpAny_bind (wpAny_bind (wpAny_loadPart hx (wpAny_bind (PySem.W.Looks.here (s := { s with toks := s.toks + 1 }) (PySem.W.looks_clsIn X hc) ?_))))))
 rw [hd']
 refine wpAny_pure (a := some dx) (wpAny_bind (wpAny_pure (wpAny_bind ?_)))
 refine wpAny_nsSet1 (s := { s with toks := s.toks + 1 }) I.ns fun h' hn2 hs2 => ?_
 obtain ⟨oD, esD, epD, hoD, hdD, hcD⟩ := hn2.count (PySem.Within.cons name v hw)
 refine wpAny_bind (wpAny_lookBehind hoD (by rw [hdD]; exact pastItsLine_dict (Nat.le_trans hcD (by rw [List.length_cons]; lia))) ?_)
 exact wpAny_pure (h _ ⟨(hs2.2 _ (Ne.symm I.ne)).trans I.obj, hn2, I.ne⟩ hs2)
theorem Jh {R : Result → Shared → Prop} {vs : List Value} {kw : List (Str × Value)} (X : K.In s.heap) (hm : PySem.W.makesIn K C = true)
  (hi : PySem.W.findIn K (.ref C) "__init__" = some (some (.ref f))) (hf : PySem.W.typeIn K (.ref f) = some (.type "function"))
  (h : codeAny (model prog w) (A.under (.builtin "type.__call__" ⟨.ref C :: vs, kw⟩)) (.call (.ref f) ⟨.ref (s.heap.objs.size + 1) :: vs, kw⟩) (PySem.W.InitBack (s.heap.objs.size + 1) R)
   { s with heap := (s.heap.push PySem.W.emptyDict).push (PySem.W.instObj C s.heap.objs.size) }) :
  codeAny (model prog w) A (.call (.ref C) ⟨vs, kw⟩) R s := by
 obtain ⟨hh, g, d, t, os⟩ := s
 exact PySem.W.make_core (PySem.W.makes_of X hm) (PySem.W.looks_findIn X hi) (fun self => PySem.W.bind_fn X self hf) (.inl rfl) h
end
noncomputable def Ck (f : Str) (v : V) : List (Str × V) → List (Str × V)
 | [] => [(f, v)]
 | (g, x) :: r => if g = f then (g, v) :: r else (g, x) :: Ck f v r
theorem ES (f g : Str) (v : V) : ∀ fs : List (Str × V), (Ck f v fs).lookup g = if g = f then some v else fs.lookup g
 | [] => by
  show List.lookup g [(f, v)] = _
  by_cases h : g = f
  ·have hb : (g == f) = true := beq_iff_eq.mpr h
   simp only [List.lookup, hb, if_pos h]
  ·have hb : (g == f) = false := beq_eq_false_iff_ne.mpr h
   simp only [List.lookup, hb, if_neg h]
 | (k, x) :: r => by
  have ih := ES f g v r
  rw [show Ck f v ((k, x) :: r) = (if k = f then (k, v) :: r else (k, x) :: Ck f v r) from rfl]
  by_cases hk : k = f
  ·rw [if_pos hk]
   by_cases h : g = k
   ·have hb : (g == k) = true := beq_iff_eq.mpr h
    simp only [List.lookup, hb, if_pos (h.trans hk)]
   ·have hb : (g == k) = false := beq_eq_false_iff_ne.mpr h
    simp only [List.lookup, hb, if_neg (fun e : g = f => h (e.trans hk.symm))]
  ·rw [if_neg hk]
   by_cases h : g = k
   ·have hb : (g == k) = true := beq_iff_eq.mpr h
    simp only [List.lookup, hb, if_neg (fun e : g = f => hk (h.symm.trans e))]
   ·have hb : (g == k) = false := beq_eq_false_iff_ne.mpr h
    simp only [List.lookup, hb]
    exact ih
theorem D8 (f : Str) (v : V) : ∀ fs : List (Str × V), f ∈ (Ck f v fs).map (·.1) ∧ ∀ g, g ∈ fs.map (·.1) → g ∈ (Ck f v fs).map (·.1)
 | [] => ⟨by simp [Ck], fun g h => by simp at h⟩
 | (k, x) :: r => by
  obtain ⟨i1, i2⟩ := D8 f v r
  rw [show Ck f v ((k, x) :: r) = (if k = f then (k, v) :: r else (k, x) :: Ck f v r) from rfl]
  by_cases hk : k = f
  ·rw [if_pos hk]
   subst hk
   exact ⟨by simp, fun g h => by simpa using h⟩
  ·rw [if_neg hk]
   refine ⟨?_, fun g h => ?_⟩
   ·rw [List.map_cons]
    exact List.mem_cons_of_mem _ i1
   ·rw [List.map_cons] at h ⊢
    rcases List.mem_cons.mp h with e | e
    ·exact List.mem_cons.mpr (.inl e)
    ·exact List.mem_cons_of_mem _ (i2 g e)
theorem EN (f : Str) (v : V) : ∀ fs : List (Str × V), (Ck f v fs).length ≤ fs.length + 1
 | [] => by simp [Ck]
 | (k, x) :: r => by
  have ih := EN f v r
  rw [show Ck f v ((k, x) :: r) = (if k = f then (k, v) :: r else (k, x) :: Ck f v r) from rfl]
  by_cases hk : k = f
  ·rw [if_pos hk, List.length_cons, List.length_cons]; lia
  ·rw [if_neg hk, List.length_cons, List.length_cons]; lia
theorem FW.some_of {v : V} {o : Option Value} (r : FW (some v) o) : ∃ u, o = some u ∧ RelV v u := by
 cases o with
 | none => exact (show False from r).elim
 | some u => exact ⟨u, rfl, r⟩
theorem FW.none_of {o : Option Value} (r : FW none o) : o = none := by
 cases o with
 | none => rfl
 | some u => exact (show False from r).elim
theorem JI {v : V} {u : Value} (r : RelV v u) : PySem.W.handedIn u = true := by
 cases v with
 | non => cases (show u = Value.none from r); rfl
 | bl b => cases (show u = Value.bool b from r); rfl
 | int i => obtain ⟨t, e⟩ := (show ∃ t, u = Value.int i t from r); cases e; rfl
 | str x => obtain ⟨t, e⟩ := (show ∃ t, u = Value.str x t from r); cases e; rfl
 | byt b => obtain ⟨t, e⟩ := (show ∃ t, u = Value.bytes b t from r); cases e; rfl
 | flt b => obtain ⟨t, e⟩ := (show ∃ t, u = Value.float b t from r); cases e; rfl
 | ref a => cases (show u = Value.ref a from r); rfl
 | ty n => cases (show u = Value.type n from r); rfl
section
variable {P : Program} {w : World} {H H' : Hp} {h h' : Heap} {a C dx : Addr} {fs fs' : List (Str × V)}
theorem Ec (hok : HOk P w H h) (e : H a = some (.ins C dx fs)) : ∃ mA, Hv h a dx C mA ∧ (∀ f, FW (fs.lookup f) (mA f)) ∧ PySem.Within mA (fs.map (·.1)) ∧ fs.length ≤ 1000 ∧ H dx = some (.own a) := by
 obtain ⟨d, z, ne, ob, mA, n, r, q⟩ := (show As P w H h a (.ins C dx fs) from hok a _ e)
 exact ⟨mA, ⟨ob, n, ne⟩, r, q, z, d⟩
end
structure Cls (K : PySem.W.Frag) (C : Addr) : Prop where
 pg : PySem.W.plainGet K C Str.empty = true
 hd : PySem.W.hasDictIn K C = true
 po : PySem.W.plainOver K C = true
 sa : PySem.W.findIn K (.ref C) "__setattr__" = some (some (.builtin "object.__setattr__"))
theorem Cls.get {K : PySem.W.Frag} {C : Addr} (c : Cls K C) (f : Str) : PySem.W.plainGet K C f = true := c.pg
noncomputable def B3 (K : PySem.W.Frag) (C : Addr) (f : Str) : Prop := PySem.W.findIn K (.ref C) f = some none
theorem B3.taker {K : PySem.W.Frag} {C : Addr} {f : Str} (n : B3 K C f) : PySem.W.takerIn K C f = some none := by
 unfold PySem.W.takerIn
 rw [show PySem.W.findIn K (.ref C) f = some none from n]
 rfl
structure JZ (K : PySem.W.Frag) (C : Addr) (m : Str) (f : Addr) : Prop where
 at_ : PySem.W.findIn K (.ref C) m = some (some (.ref f))
 fn : PySem.W.isFn K (.ref f) = true
 kp : PySem.W.keepIn K (.ref f) = true
section
variable {X : Cx} {pins : List (Addr × Obj)} {σ : St} {H : Hp} {s : Shared} {a C dx : Addr} {fs : List (Str × V)} {f : Str} {v : V} {A : Around} {E : Value → Shared → Prop}
theorem HY {b : Bool} {Q : Value → Shared → Prop} (I : Inv X pins σ H s) (e : H a = some (.ins C dx fs)) (c : Cls X.K C) (n : B3 X.K C f) (l : fs.lookup f = some v)
  (h : ∀ u s', Inv X pins σ H s' → RelV v u → Q u s') : wpAny (model X.prog X.w) A (getAttr (.ref a) f b) Q E s := by
 obtain ⟨mA, O, r, _, _, _⟩ := Ec I.hok e
 obtain ⟨u, hu, ru⟩ := FW.some_of (v := v) (o := mA f) (by rw [← l]; exact r f)
 exact Ka I.kIn O (c.get f) c.hd n hu (JI ru) (h u _ (I.tok _) ru)
theorem Er {m : Str} {g : Addr} {pl : Sem Bool} {Q : Value × List Value → Shared → Prop} (I : Inv X pins σ H s) (e : H a = some (.ins C dx fs)) (c : Cls X.K C) (k : JZ X.K C m g) (l : fs.lookup m = none)
  (h : Q (.ref g, [.ref a]) s) : wpAny (model X.prog X.w) A (getMethod (.ref a) m pl) Q E s := by
 obtain ⟨mA, O, r, _, _, _⟩ := Ec I.hok e
 have hn : mA m = none := FW.none_of (by rw [← l]; exact r m)
 exact J7 I.kIn O (c.get m) k.at_ k.fn hn h
theorem He {y : V} {u : Value} {Q : Unit → Shared → Prop} (I : Inv X pins σ H s) (e : H a = some (.ins C dx fs)) (c : Cls X.K C) (n : B3 X.K C f) (hl : fs.length < 1000) (ry : RelV y u)
  (h : ∀ s', Inv X pins σ (upd H a (.ins C dx (Ck f y fs))) s' → Q () s') : wpAny (model X.prog X.w) A (setAttr (.ref a) f u) Q E s := by
 obtain ⟨mA, O, r, wi, _, ho⟩ := Ec I.hok e
 have hz : (fs.map (·.1)).length ≤ sizeLine := by rw [List.length_map, sizeLine_eq]; lia
 refine K6 I.kIn O c.sa c.po n.taker c.hd wi hz fun h' O' sb => h _ ?_
 have hd : ∃ o, h'.get? dx = some o := let ⟨o, _, _, e', _⟩ := O'.ns; ⟨o, e'⟩
 refine I.write (x := a) (e := dx) (by rw [e]; exact True.intro) (.inr ho) (fun b q hb z => (sb.2 b hb).trans z) hd ?_
 refine ⟨by rw [AF O.ne]; exact ho, ?_, O.ne, O'.obj, _, O'.ns, fun g => ?_, fun g hg => ?_⟩
 ·have := EN f y fs; lia
 ·show FW ((Ck f y fs).lookup g) (if g = f then some u else mA g)
  rw [ES]
  by_cases q : g = f
  ·rw [if_pos q, if_pos q]; exact ry
  ·rw [if_neg q, if_neg q]; exact r g
 ·by_cases q : g = f
  ·rw [q]; exact (D8 f y fs).1
  ·refine (D8 f y fs).2 g (wi g fun z => hg ?_)
   show (if g = f then some u else mA g) = none
   rw [if_neg q]; exact z
theorem Inv.made (I : Inv X pins σ H s) : Inv X pins σ (upd (upd H s.heap.objs.size (.own (s.heap.objs.size + 1))) (s.heap.objs.size + 1) (.ins C s.heap.objs.size []))
  { s with heap := (s.heap.push PySem.W.emptyDict).push (PySem.W.instObj C s.heap.objs.size) } := by
 have e1 : (s.heap.push PySem.W.emptyDict).get? s.heap.objs.size = some PySem.W.emptyDict := Heap.get?_push_size s.heap rfl
 have e2 : ((s.heap.push PySem.W.emptyDict).push (PySem.W.instObj C s.heap.objs.size)).get? (s.heap.objs.size + 1) = some (PySem.W.instObj C s.heap.objs.size) := by
  have := Heap.get?_push_size (s.heap.push PySem.W.emptyDict) (o := PySem.W.instObj C s.heap.objs.size) rfl
  rwa [Heap.size_push] at this
 have e3 : (s.heap.push PySem.W.emptyDict).Ns s.heap.objs.size (fun _ => none) := ⟨PySem.W.emptyDict, #[], _, e1, rfl, (fun e he => absurd he (by simp)), fun _ => rfl⟩
 have I1 := I.laid (a := s.heap.objs.size) (o := .own (s.heap.objs.size + 1)) (h' := s.heap.push PySem.W.emptyDict) (t' := s.toks) (fun b u q => Heap.get?_push_of_some _ q) (Nat.le_refl _) ⟨_, e1⟩
 refine I1.laid (a := s.heap.objs.size + 1) (o := .ins C s.heap.objs.size []) (t' := s.toks) (fun b u q => Heap.get?_push_of_some _ q) (Nat.le_of_eq (Heap.size_push _ _)) ?_
 have ne : s.heap.objs.size ≠ s.heap.objs.size + 1 := Nat.ne_of_lt (Nat.lt_succ_self _)
 refine ⟨by rw [AF ne, AI], Nat.zero_le _, ne, e2, fun _ => none, (Heap.Ns1.of_empty e3).at fun o q => Heap.get?_push_of_some _ q, fun _ => True.intro, fun y hy => absurd rfl hy⟩
theorem Kg {prog : Program} {w : World} {env : Env} {e : Expr} {f : Str} {pos : Pos} {s : Shared} {Q : Value → Shared → Prop} (hb : attributeBase e f env (eval e env) = eval e env)
  (h : wpAny (model prog w) A (eval e env) (fun o s₁ => wpAny (model prog w) A (getAttr o f true) Q E s₁) E s) : wpAny (model prog w) A (eval (.Attribute e f pos) env) Q E s :=
 Attribute_any_ h (by rw [arm_eval_Attribute, hb])
end
noncomputable def FN (K : PySem.W.Frag) (ta : TE) (f : Str) : TE := fun σ H Q => ta σ H fun x H1 => ∃ a C dx fs v, x = .ref a ∧ H1 a = some (.ins C dx fs) ∧ Cls K C ∧ B3 K C f ∧ fs.lookup f = some v ∧ Q v H1
noncomputable def FO (K : PySem.W.Frag) (ta tv : TE) (f : Str) : TS := fun D σ H => tv σ H fun y H1 => ta σ H1 fun x H2 => ∃ a C dx fs, x = .ref a ∧ H2 a = some (.ins C dx fs) ∧ Cls K C ∧ B3 K C f ∧ fs.length < 1000 ∧
 D.nx σ (upd H2 a (.ins C dx (Ck f y fs)))
section
variable {X : Cx} {o e value : Expr} {f : Str} {pos pos' tpos : Pos} {ta tv : TE}
theorem BH (he : PE X e ta) (hb : attributeBase e f X.env (eval e X.env) = eval e X.env) : PE X (.Attribute e f pos) (FN X.K ta f) := by
 intro pins s σ H Q I h
 refine Kg hb (thn (he pins s σ H _ I h) fun u s1 zq => ?_)
 obtain ⟨x, H1, I1, rx, a, C, dx, fs, v, ex, ea, c, n, l, q⟩ := zq
 subst ex
 obtain rfl : u = Value.ref a := rx
 exact HY I1 ea c n l fun u' s2 I2 ru => ⟨v, H1, I2, ru, q⟩
theorem EC (ha : PE X o ta) (hv : PE X value tv) (hs : swapsWith value (some (.Attribute o f pos')) pos.line X.env = pure false) : PS X (.Assign [.Attribute o f pos'] value pos) (FO X.K ta tv f) := by
 intro pins s σ H D I h
 refine plainObj_wpAny_Assign_Attribute (thn (hv pins s σ H _ I h) fun u s1 ⟨y, H1, I1, ry, q⟩ => thn (ha pins s1 σ H1 _ I1 q) fun ov s2 ⟨x, H2, I2, rx, a, C, dx, fs, ex, ea, c, n, l, q2⟩ => ?_) hs
 subst ex
 obtain rfl : ov = Value.ref a := rx
 exact He I2 ea c n l ry fun s3 I3 => ⟨σ, _, I3, q2⟩
end
section
variable {X : Cx} {pins : List (Addr × Obj)} {σ : St} {H : Hp} {s : Shared} {A : Around} {E : Value → Shared → Prop} {Q : Value → Shared → Prop} {c : Value} {b : Bool}
inductive Cd (K : PySem.W.Frag) (H : Hp) : V → Value → Prop where
 | non : Cd K H .non (.type "NoneType")
 | bl (x : Bool) : Cd K H (.bl x) (.type "bool")
 | int (i : Int) : Cd K H (.int i) (.type "int")
 | str (x : Str) : Cd K H (.str x) (.type "str")
 | flt (x : UInt64) : Cd K H (.flt x) (.type "float")
 | lst {a : Addr} {xs : List V} (e : H a = some (.lst xs)) : Cd K H (.ref a) (.type "list")
 | frz {a : Addr} {o : Obj} {xs : List V} (e : H a = some (.frz o (.lst xs))) : Cd K H (.ref a) (.type "list")
 | tup {a : Addr} {xs : List V} (e : H a = some (.tup xs)) : Cd K H (.ref a) (.type "tuple")
 | dK {a : Addr} {kvs : List (Key × V)} (e : H a = some (.dK kvs)) : Cd K H (.ref a) (.type "dict")
 | dT {a : Addr} {kvs : List (List Key × V)} (e : H a = some (.dT kvs)) : Cd K H (.ref a) (.type "dict")
 | ins {a C dx : Addr} {fs : List (Str × V)} (e : H a = some (.ins C dx fs)) (cl : Cls K C) (ha : PySem.W.findIn K (.ref C) "__class__" = some (some (.builtin "object.__class__")))
   (hn : PySem.W.specialIn K (.builtin "object.__class__") "__get__" = some (some (.builtin "getset_descriptor.__get__"))) (htk : PySem.W.takesIn K (.builtin "object.__class__") = some true)
   (hm : PySem.W.mroIn K C (.type "object") = some true) : Cd K H (.ref a) (.ref C)
theorem JB {x : V} {u t : Value} (I : Inv X pins σ H s) (rx : RelV x u) (ty : Cd X.K H x t) (e : PySem.W.kitOne X.K t c = some b) (h : ∀ tk, Q (.bool b) { s with toks := tk }) :
  wpAny (model X.prog X.w) A (call (.builtin "isinstance") [u, c]) Q E s := by
 cases ty with
 | non => cases (show u = Value.none from rx); exact PySem.W.kia_one PySem.W.kitx_none I.kIn True.intro e (fun z => nomatch z) h
 | bl y => cases (show u = Value.bool y from rx); exact PySem.W.kia_one PySem.W.kitx_bool I.kIn True.intro e (fun z => nomatch z) h
 | int i => obtain ⟨t, q⟩ := (show ∃ t, u = Value.int i t from rx); cases q; exact PySem.W.kia_one PySem.W.kitx_int I.kIn True.intro e (fun z => nomatch z) h
 | str y => obtain ⟨t, q⟩ := (show ∃ t, u = Value.str y t from rx); cases q; exact PySem.W.kia_one PySem.W.kitx_str I.kIn True.intro e (fun z => nomatch z) h
 | flt y => obtain ⟨t, q⟩ := (show ∃ t, u = Value.float y t from rx); cases q; exact PySem.W.kia_one PySem.W.kitx_float I.kIn True.intro e (fun z => nomatch z) h
 | @lst a xs ea =>
  cases (show u = Value.ref a from rx)
  obtain ⟨_, _, n, _, h1⟩ := (show As X.prog X.w H s.heap a (.lst xs) from I.hok a _ ea)
  exact PySem.W.kia_one PySem.W.kitx_list I.kIn ⟨_, h1, rfl⟩ e (fun z => nomatch z) h
 | @frz a ob xs ea =>
  cases (show u = Value.ref a from rx)
  obtain ⟨_, _, _, n, _, h1⟩ := (show As X.prog X.w H s.heap a (.frz ob (.lst xs)) from I.hok a _ ea)
  exact PySem.W.kia_one PySem.W.kitx_list I.kIn ⟨_, h1, rfl⟩ e (fun z => nomatch z) h
 | @tup a xs ea =>
  cases (show u = Value.ref a from rx)
  obtain ⟨_, _, _, p⟩ := (show As X.prog X.w H s.heap a (.tup xs) from I.hok a _ ea)
  obtain ⟨o, h1, h2, _⟩ := p
  exact PySem.W.kia_one PySem.W.kitx_tuple I.kIn ⟨o, h1, h2⟩ e (fun z => nomatch z) h
 | @dK a kvs ea =>
  cases (show u = Value.ref a from rx)
  obtain ⟨_, _, vs, _, p⟩ := (show As X.prog X.w H s.heap a (.dK kvs) from I.hok a _ ea)
  obtain ⟨o, es, ep, h1, h2, _⟩ := p
  exact PySem.W.kia_one PySem.W.kitx_dict I.kIn ⟨o, h1, h2.1⟩ e (fun z => nomatch z) h
 | @dT a kvs ea =>
  cases (show u = Value.ref a from rx)
  obtain ⟨_, _, xs, _, o, es, ep, h1, h2, _⟩ := (show As X.prog X.w H s.heap a (.dT kvs) from I.hok a _ ea)
  exact PySem.W.kia_one PySem.W.kitx_dict I.kIn ⟨o, h1, h2.1⟩ e (fun z => nomatch z) h
 | @ins a C dx fs ea cl ha hn htk hm =>
  cases (show u = Value.ref a from rx)
  obtain ⟨mA, O, _⟩ := Ec I.hok ea
  obtain ⟨od, J, _⟩ := O.look
  exact PySem.W.kia_one (PySem.W.kitx_own (cl.get _) cl.hd ha hn htk hm) I.kIn J e (fun z => nomatch z) h
end
structure A1 (k : Nat) (A : Around) : Prop where
 hd : A.handled = none
 dp : A.depth + 3 * k + 5 < recursionLimit
 un : A.units + 16 * k + 200 < cLine
theorem A1.mono {j k : Nat} {A : Around} (r : A1 k A) (h : j ≤ k) : A1 j A := ⟨r.hd, by have := r.dp; lia, by have := r.un; lia⟩
theorem A1.deeper {k : Nat} {A : Around} (r : A1 (k + 1) A) (env : Env) : A1 k (A.deeper env) :=
 ⟨r.hd, by have := r.dp; show A.depth + 1 + 3 * k + 5 < _; lia, by have := r.un; show A.units + 3 + 16 * k + 200 < _; lia⟩
theorem Hs {A : Around} {C : Addr} {us : List Value} {kw : List (Str × Value)} : (A.under (.builtin "type.__call__" ⟨.ref C :: us, kw⟩)).depth = A.depth + 1 := by
 first | rfl | simp [Around.under, Code.weight, Code.isCreation, Code.isGuard, Code.isCaller, Code.frames, Code.isFrame, guardIds]
theorem HS {A : Around} {C : Addr} {us : List Value} {kw : List (Str × Value)} : (A.under (.builtin "type.__call__" ⟨.ref C :: us, kw⟩)).units = A.units + 1 := by
 first | rfl | simp [Around.under, Code.cUnits, Code.frames, Code.isFrame]
theorem A1.make {k : Nat} {A : Around} (r : A1 (k + 1) A) (C : Addr) (us : List Value) (kw : List (Str × Value)) : A1 k (A.under (.builtin "type.__call__" ⟨.ref C :: us, kw⟩)) :=
 ⟨r.hd, by have := r.dp; rw [Hs]; lia, by have := r.un; rw [HS]; lia⟩
theorem A1.depth {k : Nat} {A : Around} (r : A1 k A) : A.depth < recursionLimit := by have := r.dp; lia
theorem A1.units {k : Nat} {A : Around} (r : A1 k A) : A.units + 64 < cLine := by have := r.un; lia
noncomputable def Ds : TA := fun _ H Q => Q [] H
noncomputable def CO (ta : TE) (tr : TA) : TA := fun σ H Q => ta σ H fun x H1 => tr σ H1 fun xs H2 => Q (x :: xs) H2
section
variable {X : Cx} {e : Expr} {es : List Expr} {te : TE} {t : TA} {pos : Pos}
theorem AC : PA X [] Ds := fun _ _ _ _ H Q I h => Calls.spliced_nil ⟨[], H, I, .nil, h⟩
theorem AA (ha : PE X e te) (hr : PA X es t) (hs : starEach (e :: es) X.env = (false, eval e X.env) :: starEach es X.env := by rfl) : PA X (e :: es) (CO te t) := by
 intro pos pins s σ H Q I h
 rw [hs]
 show wpAny _ _ (spliced ((false, eval e X.env) :: backTo pos (starEach es X.env))) _ _ s
 refine Calls.spliced_cons (thn (ha pins s σ H _ I h) fun u s1 zq => ?_)
 obtain ⟨x, H1, I1, r1, q1⟩ := zq
 exact thn (hr pos pins s1 σ H1 _ I1 q1) fun us s2 ⟨xs, H2, I2, r2, q2⟩ => ⟨x :: xs, H2, I2, .cons r1 r2, q2⟩
end
noncomputable abbrev Sp := List V → Hp → VK → XK → Prop
noncomputable abbrev CXT := List Env → Hp → Shared → XK → Value → Shared → Prop
structure Hz (P : Program) (w : World) (K : PySem.W.Frag) (mg : Str → Option Value) (base : Heap) (A : Around) (outer : List Env) (s : Shared) (H : Hp) : Prop where
 frames : A.frames = some outer
 mod : Mod K mg base
 bs : ∀ b o, base.get? b = some o → s.heap.get? b = some o ∧ H b = none
 bsz : base.objs.size ≤ s.heap.objs.size
 funs : s.heap.FunFrames base outer
 frf : ∀ b ∈ frs outer, H b = none
 hok : HOk P w H s.heap
 bare : AllBare s.gens
noncomputable def CE (outer : List Env) (P : Program) (w : World) (H : Hp) (s : Shared) (Q : VK) (u : Value) (s' : Shared) : Prop :=
 ∃ v H', s'.os = s.os ∧ AllBare s'.gens ∧ Un (frs outer) [] H H' s.heap s'.heap ∧ HOk P w H' s'.heap ∧ RelV v u ∧ Q v H'
noncomputable def CR (CX : CXT) (outer : List Env) (P : Program) (w : World) (H : Hp) (s : Shared) (Q : VK) (E : XK) (r : Result) (s' : Shared) : Prop :=
 match r with
 | .ok (.ret u) => CE outer P w H s Q u s'
 | .ok _ => False
 | .error e => CX outer H s E e s'
structure Ad (P : Program) (w : World) (K : PySem.W.Frag) (mg : Str → Option Value) (base : Heap) (CX : CXT) (k : Nat) (f : Addr) (fd : FuncData) (ps : List Str) (sp : Sp) : Prop where
 len : ∀ vs H Q E, sp vs H Q E → vs.length = ps.length
 run : ∀ (A : Around) (outer : List Env) (s : Shared) (H : Hp) (args : Args) (us : List Value) (vs : List V) (Q : VK) (E : XK), A1 k A → Hz P w K mg base A outer s H → BindsTo s fd args (ps.zip us) → AT vs us → sp vs H Q E →
  codeAny (model P w) A (.call (.ref f) args) (CR CX outer P w H s Q E) s
theorem Ad.mono {P : Program} {w : World} {K : PySem.W.Frag} {mg : Str → Option Value} {base : Heap} {CX : CXT} {j k : Nat} {f : Addr} {fd : FuncData} {ps : List Str} {sp : Sp} (F : Ad P w K mg base CX j f fd ps sp) (h : j ≤ k) :
  Ad P w K mg base CX k f fd ps sp := ⟨F.len, fun A outer s H args us vs Q E hr => F.run A outer s H args us vs Q E (hr.mono h)⟩
theorem Hz.make {P : Program} {w : World} {K : PySem.W.Frag} {mg : Str → Option Value} {base : Heap} {A : Around} {outer : List Env} {s : Shared} {H : Hp} (e : Hz P w K mg base A outer s H) (C : Addr) (us : List Value) (kw : List (Str × Value)) :
  Hz P w K mg base (A.under (.builtin "type.__call__" ⟨.ref C :: us, kw⟩)) outer s H := ⟨by first | exact e.frames | (simpa [Around.under, Code.envs, Code.isFrame, pushEnvs] using e.frames), e.mod, e.bs, e.bsz, e.funs, e.frf, e.hok, e.bare⟩
section
variable {X : Cx} {pins : List (Addr × Obj)} {σ : St} {H : Hp} {s s' : Shared}
theorem Inv.env0 (I : Inv X pins σ H s) : Hz X.prog X.w X.K X.mg X.base X.A X.stack s H :=
 ⟨I.ok.frames, I.ok.mod, I.bs, Nat.le_trans I.ok.bsz I.sz, I.stack, I.stkFree, I.hok, I.bare⟩
theorem Inv.after {Q : VK} {u : Value} (I : Inv X pins σ H s) (h : CE X.stack X.prog X.w H s Q u s') : EP X pins σ Q u s' := by
 obtain ⟨v, H', os, bare, un, hok, r, q⟩ := h
 obtain ⟨hh, g, d, t, os'⟩ := s'
 obtain rfl : os' = s.os := os
 exact ⟨v, H', I.call (h' := hh) (g' := g) (d' := d) (t' := t) (ch := []) un hok bare (fun b z => absurd z (by simp)), r, q⟩
end
noncomputable def CU (sp : Sp) (dvs : List V) (E : XK) (t : TA) : TE := fun σ H Q => t σ H fun vs H1 => sp (vs ++ dvs) H1 Q E
noncomputable def Cb (C : Addr) (m : Str) (sp : Sp) (dvs : List V) (E : XK) (ta : TE) (t : TA) : TE := fun σ H Q => ta σ H fun x H1 => ∃ a dx fs, x = .ref a ∧ H1 a = some (.ins C dx fs) ∧ fs.lookup m = none ∧
 t σ H1 fun vs H2 => sp (x :: (vs ++ dvs)) H2 Q E
noncomputable def Cs (C : Addr) (sp : Sp) (dvs : List V) (E : XK) (t : TA) : TE := fun σ H Q => t σ H fun vs H1 => ∀ x dx, H1 x = none → H1 dx = none → dx ≠ x →
 sp (.ref x :: (vs ++ dvs)) (upd (upd H1 dx (.own x)) x (.ins C dx [])) (fun v H2 => v = .non ∧ Q (.ref x) H2) E
noncomputable def Binds (K : PySem.W.Frag) (fd : FuncData) (ps : List Str) (ds : List Value) : Prop :=
 ∀ (s : Shared) (us : List Value), K.In s.heap → (us ++ ds).length = ps.length → BindsTo s fd ⟨us, []⟩ (ps.zip (us ++ ds))
theorem Binds.all {K : PySem.W.Frag} {fd : FuncData} {ps : List Str} (h : ∀ us : List Value, us.length = ps.length → bindArgs fd ⟨us, []⟩ = pure (ps.zip us)) : Binds K fd ps [] := fun s us _ hl => by
 rw [List.append_nil] at hl ⊢
 exact .of_eq (h us hl)
noncomputable def Ba (CX : CXT) (X : Cx) (E : XK) : Prop := ∀ (pins : List (Addr × Obj)) (σ : St) (H : Hp) (s : Shared) (e : Value) (s' : Shared), Inv X pins σ H s → CX X.stack H s E e s' → X.xe e s'
section
variable {X : Cx} {CX : CXT} {k : Nat} {f C : Addr} {fd : FuncData} {ps : List Str} {sp : Sp} {dvs : List V} {ds : List Value} {E : XK} {x m : Str} {p pos apos : Pos} {e o : Expr} {es : List Expr} {ta : TE} {t : TA}
theorem GA {pins : List (Addr × Obj)} {σ : St} {H : Hp} {s : Shared} {Q : VK} {us : List Value} {vs : List V} (F : Ad X.prog X.w X.K X.mg X.base CX k f fd ps sp) (hr : A1 k X.A) (hb : Binds X.K fd ps ds) (hd : AT dvs ds) (hx : Ba CX X E)
  (I : Inv X pins σ H s) (r : AT vs us) (h : sp (vs ++ dvs) H Q E) : wpAny (model X.prog X.w) X.A (call (.ref f) us) (EP X pins σ Q) X.xe s := by
 have r2 : AT (vs ++ dvs) (us ++ ds) := r.append hd
 have hl : (us ++ ds).length = ps.length := by rw [← r2.length]; exact F.len _ _ _ _ h
 refine wpAny_call (codeAny_mono (F.run X.A X.stack s H ⟨us, []⟩ (us ++ ds) (vs ++ dvs) Q E hr I.env0 (hb s us I.kIn hl) r2 h) fun r s' hq => ?_)
 cases r with
 | error e => exact hx pins σ H s e s' I hq
 | ok fl =>
  cases fl with
  | ret u => exact I.after hq
  | next => exact False.elim hq
  | brk => exact False.elim hq
  | cont => exact False.elim hq
theorem KW (F : Ad X.prog X.w X.K X.mg X.base CX k f fd ps sp) (hr : A1 k X.A) (hg : Gl X x) (hm : X.mg x = some (.ref f)) (hk : PySem.W.keepIn X.K (.ref f) = true) (hb : Binds X.K fd ps ds) (hd : AT dvs ds) (hx : Ba CX X E)
  (ha : PA X (e :: es) t) (hdb : (x == ("__debug__" : Str)) = false := by decide) (he : starEach (e :: es) X.env = (false, eval e X.env) :: starEach es X.env := by rfl) (hpl : (backTo pos (starEach es X.env)).any (·.1) = false := by rfl) :
  PE X (.Call (.Name x p) (e :: es) [] pos) (CU sp dvs E t) := by
 intro pins s σ H Q I h
 refine wpAny_Call_Name_kw (CH I hg hm ?_ hdb)
 refine PySem.W.callWith_K (h₀ := X.base) I.ok.mod.kin hk (thn (ha pos pins s σ H _ I h) fun us s1 ⟨vs, H1, I1, r, q⟩ => ⟨I1.kIn, ?_⟩) he hpl
 exact GA F hr hb hd hx I1 r q
theorem Bm {pl : Sem Bool} (he : PE X o ta) (c : Cls X.K C) (hm : JZ X.K C m f) (F : Ad X.prog X.w X.K X.mg X.base CX k f fd ps sp) (hr : A1 k X.A) (hb : Binds X.K fd ps ds) (hd : AT dvs ds) (hx : Ba CX X E) (ha : PA X (e :: es) t)
  (hst : starEach (e :: es) X.env = (false, eval e X.env) :: starEach es X.env := by rfl) (hpl : (backTo pos (starEach es X.env)).any (·.1) = false := by rfl)
  (ht : eval (.Call (.Attribute o m apos) (e :: es) [] pos) X.env = (do
   let ov ← eval o X.env
   standAt apos.atName
   let (f, first) ← holding [ov] (getMethod ov m pl)
   callWith pos f first (backTo pos (starEach (e :: es) X.env)) (backToKw pos (keywordEach [] X.env))) := by rfl) :
  PE X (.Call (.Attribute o m apos) (e :: es) [] pos) (Cb C m sp dvs E ta t) := by
 intro pins s σ H Q I h
 refine PySem.W.methodCall_KW (pl := pl) (thn (he pins s σ H _ I h) fun u s1 ⟨x, H1, I1, rx, a, dx, fs, ex, ea, l, q⟩ => ?_) ht
 subst ex
 obtain rfl : u = Value.ref a := rx
 refine Er I1 ea c hm l ?_
 refine PySem.W.callWith_K (first := [.ref a]) (h₀ := X.base) I.ok.mod.kin hm.kp (thn (ha pos pins s1 σ H1 _ I1 q) fun us s2 ⟨vs, H2, I2, r, q2⟩ => ⟨I2.kIn, ?_⟩) hst hpl
 exact GA (us := .ref a :: us) (vs := .ref a :: vs) F hr hb hd hx I2 (.cons rfl r) q2
theorem Dl {pl : Sem Bool} (he : PE X o ta) (c : Cls X.K C) (hm : JZ X.K C m f) (F : Ad X.prog X.w X.K X.mg X.base CX k f fd ps sp) (hr : A1 k X.A) (hb : Binds X.K fd ps ds) (hd : AT dvs ds) (hx : Ba CX X E)
  (ht : eval (.Call (.Attribute o m apos) [] [] pos) X.env = (do
   let ov ← eval o X.env
   standAt apos.atName
   let (f, first) ← holding [ov] (getMethod ov m pl)
   callWith pos f first (backTo pos (starEach [] X.env)) (backToKw pos (keywordEach [] X.env))) := by rfl) :
  PE X (.Call (.Attribute o m apos) [] [] pos) (Cb C m sp dvs E ta Ds) := by
 intro pins s σ H Q I h
 refine PySem.W.methodCall_KW (pl := pl) (thn (he pins s σ H _ I h) fun u s1 ⟨x, H1, I1, rx, a, dx, fs, ex, ea, l, q⟩ => ?_) ht
 subst ex
 obtain rfl : u = Value.ref a := rx
 refine Er I1 ea c hm l ?_
 exact PySem.W.callWith_K0 (first := [.ref a]) I1.kIn hm.kp (GA (us := [.ref a]) (vs := [.ref a]) F hr hb hd hx I1 (.cons rfl .nil) q)
structure Mk (K : PySem.W.Frag) (C f : Addr) : Prop where
 makes : PySem.W.makesIn K C = true
 init : PySem.W.findIn K (.ref C) "__init__" = some (some (.ref f))
 fn : PySem.W.isFn K (.ref f) = true
 kp : PySem.W.keepIn K (.ref C) = true
theorem J9 {pins : List (Addr × Obj)} {σ : St} {H : Hp} {s : Shared} {Q : VK} {us : List Value} {vs : List V} (M : Mk X.K C f) (F : Ad X.prog X.w X.K X.mg X.base CX k f fd ps sp) (hr : A1 (k + 1) X.A) (hb : Binds X.K fd ps ds) (hd : AT dvs ds)
  (hx : Ba CX X E) (I : Inv X pins σ H s) (r : AT vs us)
  (h : ∀ x dx, H x = none → H dx = none → dx ≠ x → sp (.ref x :: (vs ++ dvs)) (upd (upd H dx (.own x)) x (.ins C dx [])) (fun v H2 => v = .non ∧ Q (.ref x) H2) E) :
  wpAny (model X.prog X.w) X.A (call (.ref C) us) (EP X pins σ Q) X.xe s := by
 have hq := h (s.heap.objs.size + 1) s.heap.objs.size (I.hok.fresh (Nat.le_succ _)) (I.hok.fresh (Nat.le_refl _)) (Nat.ne_of_lt (Nat.lt_succ_self _))
 have I2 := Inv.made (C := C) I
 have r2 : AT (V.ref (s.heap.objs.size + 1) :: (vs ++ dvs)) (Value.ref (s.heap.objs.size + 1) :: (us ++ ds)) := .cons rfl (r.append hd)
 have hl : (Value.ref (s.heap.objs.size + 1) :: us ++ ds).length = ps.length := by
  have e := r2.length
  rw [F.len _ _ _ _ hq] at e
  exact e.symm
 refine wpAny_call (Jh (f := f) I.kIn M.makes M.init (beq_iff_eq.mp M.fn) (codeAny_mono (F.run _ X.stack _ _ ⟨Value.ref (s.heap.objs.size + 1) :: us, []⟩ (Value.ref (s.heap.objs.size + 1) :: (us ++ ds)) _ _ E (hr.make C us [])
  (I2.env0.make C us []) (hb _ (Value.ref (s.heap.objs.size + 1) :: us) I2.kIn hl) r2 hq) fun r s' hq' => ?_))
 cases r with
 | error e => exact hx pins σ _ _ e s' I2 hq'
 | ok fl =>
  cases fl with
  | ret u =>
   obtain ⟨v, H', I3, rv, ev, q3⟩ := I2.after hq'
   subst ev
   exact ⟨rv, ⟨V.ref (s.heap.objs.size + 1), H', I3, rfl, q3⟩⟩
  | next => exact False.elim hq'
  | brk => exact False.elim hq'
  | cont => exact False.elim hq'
theorem CP (M : Mk X.K C f) (F : Ad X.prog X.w X.K X.mg X.base CX k f fd ps sp) (hr : A1 (k + 1) X.A) (hg : Gl X x) (hm : X.mg x = some (.ref C)) (hb : Binds X.K fd ps ds) (hd : AT dvs ds) (hx : Ba CX X E)
  (hdb : (x == ("__debug__" : Str)) = false := by decide) : PE X (.Call (.Name x p) [] [] pos) (Cs C sp dvs E Ds) := by
 intro pins s σ H Q I h
 refine wpAny_Call_Name_kw (CH I hg hm ?_ hdb)
 exact PySem.W.callWith_K0 I.kIn M.kp (J9 (us := []) M F hr hb hd hx I .nil h)
end
section
variable {X : Cx} {CX : CXT} {k : Nat} {f C : Addr} {fd : FuncData} {ps ks : List Str} {sp : Sp} {E : XK} {x m : Str} {p pos apos kpos : Pos} {e o : Expr} {es : List Expr} {kws : List Keyword} {te ta : TE} {t tk : TA} {nm : Option Str}
variable {g : List Value → List Value → List Value} {gV : List V → List V → List V}
end
structure AM (N P : List Str) (sc : Scope) : Prop where
 kind : sc.kind = .function
 co : sc.isCoroutine = false
 gen : sc.isGenerator = false
 nd : N.Nodup
 pre : N.take P.length = P
 par : ∀ x ∈ P, sc.names.lookup x = some .local ∨ sc.names.lookup x = some .cell
 nofree : ∀ y ∈ sc.names, y.2 ≠ .free
theorem F1 {kindOf : Str → Option NameKind} {x : Str} : ∀ {binds : List (Str × Value)} {m : Str → Option Value}, (∀ v, (x, v) ∉ binds) → bindL kindOf binds m x = m x
 | [], _, _ => rfl
 | (n, v) :: r, m, h => by
  unfold bindL
  rw [F1 fun w hw => h w (List.mem_cons_of_mem _ hw)]
  split
  ·have : x ≠ n := by rintro rfl; exact h v List.mem_cons_self
   simp [this]
  ·rfl
theorem Fl {kindOf : Str → Option NameKind} {x : Str} : ∀ {binds : List (Str × Value)} {m : Str → Option Value}, (∀ v, (x, v) ∉ binds) → bindC kindOf binds m x = m x
 | [], _, _ => rfl
 | (n, v) :: r, m, h => by
  unfold bindC
  rw [Fl fun w hw => h w (List.mem_cons_of_mem _ hw)]
  split
  ·rfl
  ·have : x ≠ n := by rintro rfl; exact h v List.mem_cons_self
   simp [this]
theorem Fy {kindOf : Str → Option NameKind} {x : Str} {v : Value} : ∀ {P : List Str} {vs : List Value} {i : Nat} {m : Str → Option Value}, P.Nodup → P[i]? = some x → vs[i]? = some v → kindOf x = some .local →
  bindL kindOf (P.zip vs) m x = some v
 | [], _, _, _, _, h, _, _ => by simp at h
 | _ :: _, [], _, _, _, _, h, _ => by simp at h
 | p :: P, w :: vs, 0, m, nd, h1, h2, hk => by
  simp at h1 h2; subst h1; subst h2
  show bindL kindOf ((p, w) :: P.zip vs) m p = _
  unfold bindL
  rw [F1 fun v hv => (List.nodup_cons.mp nd).1 (List.of_mem_zip hv).1, if_pos hk]
  simp
 | p :: P, w :: vs, i + 1, m, nd, h1, h2, hk => by
  show bindL kindOf ((p, w) :: P.zip vs) m x = _
  unfold bindL
  exact Fy (i := i) (List.nodup_cons.mp nd).2 (by simpa using h1) (by simpa using h2) hk
theorem Fz {kindOf : Str → Option NameKind} {x : Str} {v : Value} : ∀ {P : List Str} {vs : List Value} {i : Nat} {m : Str → Option Value}, P.Nodup → P[i]? = some x → vs[i]? = some v → kindOf x ≠ some .local →
  bindC kindOf (P.zip vs) m x = some v
 | [], _, _, _, _, h, _, _ => by simp at h
 | _ :: _, [], _, _, _, _, h, _ => by simp at h
 | p :: P, w :: vs, 0, m, nd, h1, h2, hk => by
  simp at h1 h2; subst h1; subst h2
  show bindC kindOf ((p, w) :: P.zip vs) m p = _
  unfold bindC
  rw [Fl fun v hv => (List.nodup_cons.mp nd).1 (List.of_mem_zip hv).1, if_neg hk]
  simp
 | p :: P, w :: vs, i + 1, m, nd, h1, h2, hk => by
  show bindC kindOf ((p, w) :: P.zip vs) m x = _
  unfold bindC
  exact Fz (i := i) (List.nodup_cons.mp nd).2 (by simpa using h1) (by simpa using h2) hk
noncomputable def start (N : List Str) (vs : List V) : St := vs.map some ++ List.replicate (N.length - vs.length) none
noncomputable def Ac (CX : CXT) (P : Program) (w : World) (K : PySem.W.Frag) (mg : Str → Option Value) (base : Heap) (N : List Str) (qual : Str) (scope : Scope) (f : Addr) (cd : Value) (A : Around) (outer : List Env) (s : Shared) (H : Hp) (E : XK) : Cx where
 prog := P
 w := w
 K := K
 mg := mg
 base := base
 A := A.deeper (envOfC qual scope s.heap.objs.size f cd)
 N := N
 s₀ := s
 H₀ := H
 env := envOfC qual scope s.heap.objs.size f cd
 outer := outer
 stack := envOfC qual scope s.heap.objs.size f cd :: outer
 ex := []
 calm := true
 fn := fun _ => true
 pn := []
 xe := fun e s' => wpAny (model P w) (A.deeper (envOfC qual scope s.heap.objs.size f cd)) (leaving (envOfC qual scope s.heap.objs.size f cd) e) (fun _ s'' => CX outer H s E e s'') (fun e' s'' => CX outer H s E e' s'') s'
theorem HI {sc : Scope} {n : Nat} {x : Str} (h : sc.names.lookup x = some .cell) : ∃ c, (cellsFrom n sc.names []).lookup x = some c := by
 have q := PySem.W.cellsFrom_some sc.names n [] (.inl h)
 exact Option.isSome_iff_exists.mp q
theorem JH {CX : CXT} {P : Program} {w : World} {K : PySem.W.Frag} {mg : Str → Option Value} {base : Heap} {N ps : List Str} {qual : Str} {scope : Scope} {f : Addr} {cd : Value} {A : Around} {outer : List Env} {s s1 : Shared} {H : Hp} {E : XK} {us : List Value} {vs : List V}
  (S : AM N ps scope) (hd : A.handled = none) (e0 : Hz P w K mg base A outer s H) (hl : vs.length = ps.length) (r : AT vs us)
  (x : InCallC s s.heap.objs.size (bindL (envOfC qual scope s.heap.objs.size f cd).kindOf (ps.zip us) fun _ => none) (cellsFrom (s.heap.objs.size + 1) scope.names []) (bindC (envOfC qual scope s.heap.objs.size f cd).kindOf (ps.zip us) fun _ => none) s1) :
  Inv (Ac CX P w K mg base N qual scope f cd A outer s H E) [] (start N vs) H s1 := by
 have hpl : ps.length ≤ N.length := by have := congrArg List.length S.pre; rw [List.length_take] at this; lia
 obtain ⟨h1, tk, rfl, hk⟩ := x.done
 have noA : ∀ b : Addr, b ∉ (Ac CX P w K mg base N qual scope f cd A outer s H E).ex := fun b z => absurd (show b ∈ ([] : List Addr) from z) (by simp)
 refine ⟨⟨e0.mod, S.kind, rfl, rfl, Nat.le_refl _, fun y z c h1 h2 => ?_, fun y hy => ?_, fun y c _ h => ?_, fun _ => hd, Around.frames_deeper e0.frames, .inr ⟨rfl, rfl⟩, fun b z => absurd z (noA b), e0.bs, e0.bsz, fun b _ _ => noA b, fun b z => absurd z (noA b), e0.funs, e0.frf⟩,
  rfl, e0.bare, Un.kept hk, ⟨_, x.toInCall.ns, fun i y v h1 h2 h3 => ?_⟩, fun y c h => ⟨_, x.cell y c h⟩, e0.hok.fresh (Nat.le_refl _), fun y c h => ?_, fun p hp => absurd (show p ∈ ([] : List (Addr × Obj)) from hp) (by simp), e0.hok.kept hk, ?_⟩
 ·exact name_of_addr x.apart (PySem.mem_of_lookup h1) (PySem.mem_of_lookup h2)
 ·have hy : scope.names.lookup y = some .cell ∨ scope.names.lookup y = some .free := hy
  rcases hy with hy | hy
  ·exact HI hy
  ·exact absurd rfl (S.nofree _ (PySem.mem_of_lookup hy))
 ·exact Nat.le_of_lt (x.above y c (PySem.mem_of_lookup h))
 ·have hi : i < vs.length := by
   unfold start at h2
   by_cases hi : i < vs.length
   ·exact hi
   ·rw [List.getElem?_append_right (by simpa using hi)] at h2
    rw [List.getElem?_replicate] at h2
    split at h2 <;> cases h2
  have ha : vs[i]? = some v := by
   unfold start at h2
   rw [List.getElem?_append_left (by simpa using hi), List.getElem?_map] at h2
   cases e : vs[i]? with
   | none => rw [e] at h2; cases h2
   | some a => rw [e] at h2; cases h2; rfl
  obtain ⟨u, hu, rv⟩ := r.get ha
  have hp : ps[i]? = some y := by
   rw [← S.pre, List.getElem?_take_of_lt (by lia)]; exact h1
  have ndP : ps.Nodup := by rw [← S.pre]; exact S.nd.sublist (List.take_sublist _ _)
  refine ⟨u, rv, ?_⟩
  rcases S.par y (List.mem_of_getElem? hp) with k | k
  ·exact .inl ⟨k, Fy ndP hp hu k⟩
  ·obtain ⟨c, e⟩ := HI (n := s.heap.objs.size + 1) k
   refine .inr ⟨.inl k, c, e, ?_⟩
   have q := x.cell y c e
   rw [Fz ndP hp hu (by show scope.names.lookup y ≠ _; rw [k]; decide)] at q
   exact q
 ·exact e0.hok.fresh (Nat.le_of_lt (x.above y c (PySem.mem_of_lookup h)))
 ·unfold start
  show _ = N.length
  rw [List.length_append, List.length_map, List.length_replicate]
  lia
theorem JT {CX : CXT} {P : Program} {w : World} {K : PySem.W.Frag} {mg : Str → Option Value} {base : Heap} {k : Nat} {f : Addr} {name qual : Str} {params : Arguments} {body : List Stmt} {scope : Scope} {dV kV doc pm cdv ct oc : Value} {an od : Option Addr}
  {osl : Array (Option Value)} {N ps : List Str} {sp : Sp} (lk : K.lookup f = some ⟨oc, od, .func (PySem.W.fnOf name qual params body scope dV kV doc pm an cdv ct), osl⟩) (hcd : PySem.W.codeIn K cdv qual = true) (S : AM N ps scope)
  (len : ∀ vs H Q E, sp vs H Q E → vs.length = ps.length)
  (hbody : ∀ (A : Around) (outer : List Env) (s : Shared) (H : Hp) (vs : List V) (Q : VK) (E : XK), A1 k (A.deeper (envOfC qual scope s.heap.objs.size f cdv)) → sp vs H Q E →
   ∃ t, PSs (Ac CX P w K mg base N qual scope f cdv A outer s H E) body t ∧ t { nx := fun _ H' => Q .non H', rt := Q } (start N vs) H) :
  Ad P w K mg base CX (k + 1) f (PySem.W.fnOf name qual params body scope dV kV doc pm an cdv ct) ps sp := by
 refine ⟨len, fun A outer s H args us vs Q E hr e0 hb r hsp => ?_⟩
 have hl := len _ _ _ _ hsp
 have KX : K.In s.heap := e0.mod.kin.keeps fun b o e => (e0.bs b o e).1
 have lim : s.heap.NoLimit := e0.mod.nolimit.keeps fun b o e => (e0.bs b o e).1
 have hkind : ∀ y ∈ ps.zip us, scope.names.lookup y.1 = some .local ∨ (scope.names.lookup y.1 = some .cell ∧ ((cellsFrom (s.heap.objs.size + 1) scope.names []).lookup y.1).isSome = true) := fun ⟨n, v⟩ hy => by
  rcases S.par n (List.of_mem_zip hy).1 with q | q
  ·exact .inl q
  ·exact .inr ⟨q, PySem.W.cellsFrom_some _ _ _ (.inl q)⟩
 refine codeAny_call_function hr.depth (KX _ _ lk) rfl S.co S.gen rfl (PySem.W.codeRec_of KX hcd) (hb _ _ _ _ ?_)
 refine wpAny_newFunctionEnv_cells S.kind hkind fun env he s1 x => ?_
 subst he
 refine ⟨lim.keeps x.toInCall.keep, codeAny_func ?_⟩
 obtain ⟨t, ht, hq⟩ := hbody A outer s H vs Q E (hr.deeper _) hsp
 have I : Inv (Ac CX P w K mg base N qual scope f cdv A outer s H E) [] (start N vs) H s1 := JH S hr.hd e0 hl r x
 refine wpAny_mono (ht [] s1 (start N vs) H _ I hq) (fun fl s' hs => ?_) fun e s' hs => hs
 have fin : ∀ {σ' : St} {H' : Hp} {v : V} {u : Value}, Inv (Ac CX P w K mg base N qual scope f cdv A outer s H E) [] σ' H' s' → RelV v u → Q v H' → CE outer P w H s Q u s' :=
  fun {σ' H' v u} J rv q => ⟨v, H', J.os, J.bare, J.base, J.hok, rv, q⟩
 cases fl with
 | ret u =>
  obtain ⟨v, σ', H', J, rv, q⟩ := hs
  exact fin J rv q
 | next =>
  obtain ⟨σ', H', J, q⟩ := hs
  exact fin (v := V.non) (u := Value.none) J rfl q
 | brk =>
  obtain ⟨_, _, _, q⟩ := hs
  exact False.elim q
 | cont =>
  obtain ⟨_, _, _, q⟩ := hs
  exact False.elim q
section
variable {X : Cx} {x : Str} {p pos : Pos} {e : Expr} {es : List Expr} {t : TA} {id T : String} {r : List V → Hp → VK → Prop}
noncomputable def tCB (r : List V → Hp → VK → Prop) (t : TA) : TE := fun σ H Q => t σ H fun vs H1 => r vs H1 Q
theorem AO (hc : BF X (.builtin id) r) (hg : Gl X x) (hm : X.mg x = none) (hv : bootBuiltins x = some (.builtin id)) (ha : PA X (e :: es) t) (hn : x ≠ "__name__" := by decide) (hdb : (x == ("__debug__" : Str)) = false := by decide)
  (he : starEach (e :: es) X.env = (false, eval e X.env) :: starEach es X.env := by rfl) (hpl : (backTo pos (starEach es X.env)).any (·.1) = false := by rfl) : PE X (.Call (.Name x p) (e :: es) [] pos) (tCB r t) := by
 intro pins s σ H Q I h
 refine wpAny_Call_Name_kw (Gh I hg hm hv ?_ hn hdb)
 exact PyProof.Rows.callWith_builtin1 (thn (ha pos pins s σ H _ I h) fun us s1 ⟨vs, H1, I1, r1, q1⟩ => hc pins s1 σ H1 vs us Q I1 r1 q1) he hpl
theorem Ap (hc : BF X (.type T) r) (hg : Gl X x) (hm : X.mg x = none) (hv : bootBuiltins x = some (.type T)) (ha : PA X (e :: es) t) (hn : x ≠ "__name__" := by decide) (hdb : (x == ("__debug__" : Str)) = false := by decide)
  (he : starEach (e :: es) X.env = (false, eval e X.env) :: starEach es X.env := by rfl) (hpl : (backTo pos (starEach es X.env)).any (·.1) = false := by rfl) : PE X (.Call (.Name x p) (e :: es) [] pos) (tCB r t) := by
 intro pins s σ H Q I h
 refine wpAny_Call_Name_kw (Gh I hg hm hv ?_ hn hdb)
 exact PyProof.Rows.callWith_type1 (thn (ha pos pins s σ H _ I h) fun us s1 ⟨vs, H1, I1, r1, q1⟩ => hc pins s1 σ H1 vs us Q I1 r1 q1) he hpl
end
end L2
namespace HT
open PySem PyProof.Rows
noncomputable def lexLt : List Int → List Int → Bool
 | [], [] => false
 | [], _ :: _ => true
 | _ :: _, [] => false
 | x :: xs, y :: ys => if x = y then lexLt xs ys else decide (x < y)
theorem lexLt_cons (x y : Int) (xs ys : List Int) : lexLt (x :: xs) (y :: ys) = if x = y then lexLt xs ys else decide (x < y) := rfl
section
open PySem.SeqAt
open PySem.AutoSeq1 (wpAny_loadPart')
open PySem.MeetsSeq PySem.MeetsSeq2 PySem.MeetsSeq3
end
section
variable {prog : Program} {w : World} {A : Around} {E : Value → Shared → Prop} {s : Shared}
noncomputable def sIx (n d : Nat) : Option Int → Nat
 | none => d
 | some v => if v < 0 then (v + (n : Int)).toNat else min v.toNat n
theorem sIx_none (n d : Nat) : sIx n d none = d := rfl
theorem sIx_nat (n d k : Nat) : sIx n d (some (k : Int)) = min k n := by
 show (if (k : Int) < 0 then ((k : Int) + (n : Int)).toNat else min (k : Int).toNat n) = min k n
 rw [if_neg (by lia), Int.toNat_natCast]
end
end HT
namespace L2
open PySem PySem.Spec PyProof.Rows
noncomputable abbrev TO := St → Hp → (Option Int → Hp → Prop) → Prop
noncomputable def PO (X : Cx) (e : Option Expr) (t : TO) : Prop :=
 ∀ (pins : List (Addr × Obj)) (s : Shared) (σ : St) (H : Hp) (Q : Option Int → Hp → Prop), Inv X pins σ H s → t σ H Q →
  wpAny (model X.prog X.w) X.A (evalPart e X.env) (fun u s' => ∃ o H', Inv X pins σ H' s' ∧ IsPart u o ∧ Q o H') X.xe s
noncomputable def A6 : TO := fun _ H Q => Q none H
noncomputable def Cv (t : TE) : TO := fun σ H Q => t σ H fun x H1 => ∃ i, x = .int i ∧ Q (some i) H1
section
variable {X : Cx} {e : Expr} {te : TE} {lo hi : Option Expr} {tl th : TO} {pos p2 : Pos}
theorem F8 : PO X none A6 := by
 intro pins s σ H Q I h
 rw [evalPart_none]
 exact wpAny_pure ⟨none, H, I, .none, h⟩
theorem Gc (h : PE X e te) : PO X (some e) (Cv te) := by
 intro pins s σ H Q I hw
 rw [evalPart_some]
 refine thn (h pins s σ H _ I hw) fun u s1 zq => ?_
 obtain ⟨x, H1, I1, r1, q1⟩ := zq
 obtain ⟨i, rfl, q⟩ := q1
 obtain ⟨t, rfl⟩ := r1
 exact ⟨some i, H1, I1, .int i t, q⟩
noncomputable def SlR (X : Cx) (r : V → Option Int → Option Int → Hp → VK → Prop) : Prop :=
 ∀ (pins : List (Addr × Obj)) (s : Shared) (σ : St) (H : Hp) (x : V) (v vl vu : Value) (lo hi : Option Int) (sl : Addr) (Q : VK), Inv X pins σ H s → RelV x v → s.heap.IsSliceOf sl vl vu .none → IsPart vl lo → IsPart vu hi → r x lo hi H Q →
  ∃ T id, typeLookup (.type T) "__getitem__" = pure (some (.builtin id)) ∧ s.TypeIs v T ∧ wpAny (model X.prog X.w) X.A (getItem v (.ref sl)) (EP X pins σ Q) X.xe s
noncomputable def tSl (r : V → Option Int → Option Int → Hp → VK → Prop) (te : TE) (tl th : TO) : TE := fun σ H Q => te σ H fun x H1 => tl σ H1 fun l H2 => th σ H2 fun u H3 => r x l u H3 Q
theorem Et {r : V → Option Int → Option Int → Hp → VK → Prop} (hr : SlR X r) (he : PE X e te) (hl : PO X lo tl) (hu : PO X hi th) : PE X (.Subscript e (.Slice lo hi none p2) pos) (tSl r te tl th) := by
 intro pins s σ H Q I h
 refine Subscript_ (thn (he pins s σ H _ I h) fun v s1 zq => ?_)
 obtain ⟨x, H1, I1, r1, q1⟩ := zq
 refine wpAny_Slice (thn (hl pins s1 σ H1 _ I1 q1) fun vl s2 ⟨l, H2, I2, pl, q2⟩ => thn (hu pins s2 σ H2 _ I2 q2) fun vu s3 zq => ?_)
 obtain ⟨u, H3, I3, pu, q3⟩ := zq
 rw [evalPart_none]
 refine wpAny_pure ?_
 have I4 : Inv X pins σ H3 { s3 with heap := s3.heap.push { cls := .type "slice", data := .fields #[vl, vu, .none] } } := I3.kept (t' := s3.toks) fun b ob q => Heap.get?_push_of_some _ q
 obtain ⟨T, id, hT, ht, hg⟩ := hr pins { s3 with heap := s3.heap.push { cls := .type "slice", data := .fields #[vl, vu, .none] } } σ H3 x v vl vu l u s3.heap.objs.size Q I4 r1 (Heap.IsSliceOf.new ..) pl pu q3
 show wpAny (model X.prog X.w) X.A (subscriptTail e (.Slice lo hi none p2) v (.ref s3.heap.objs.size)) (EP X pins σ Q) X.xe { s3 with heap := s3.heap.push { cls := .type "slice", data := .fields #[vl, vu, .none] } }
 exact tail_any (ops := [.ref s3.heap.objs.size, v]) ht hT hg (by with_unfolding_all rfl)
noncomputable def Ff (xs : List V) (lo hi : Option Int) : List V := (xs.drop (HT.sIx xs.length 0 lo)).take (HT.sIx xs.length xs.length hi - HT.sIx xs.length 0 lo)
theorem HH (xs : List V) (lo hi : Option Int) : (Ff xs lo hi).length ≤ xs.length := by
 unfold Ff
 rw [List.length_take, List.length_drop]
 lia
end
noncomputable def ixN (n : Nat) (i : Int) : Option Nat := if 0 ≤ i then (if i < n then some i.toNat else none) else if -(n : Int) ≤ i then some (i + n).toNat else none
noncomputable def atI {α : Type} (xs : List α) (i : Int) : Option α := (ixN xs.length i).bind fun j => xs[j]?
theorem Kc {n : Nat} {i : Int} {j : Nat} (h : ixN n i = some j) : seqIndex? i n = some j ∧ j < n ∧ -(n : Int) ≤ i ∧ i < n := by
 unfold ixN at h
 by_cases h0 : 0 ≤ i
 ·rw [if_pos h0] at h
  by_cases h1 : i < n
  ·rw [if_pos h1] at h
   have e : i.toNat = j := Option.some.inj h
   exact ⟨by rw [seqIndex_of h0 h1, e], by lia, by lia, h1⟩
  ·rw [if_neg h1] at h; cases h
 ·rw [if_neg h0] at h
  by_cases h1 : -(n : Int) ≤ i
  ·rw [if_pos h1] at h
   have e : (i + n).toNat = j := Option.some.inj h
   exact ⟨by rw [seqIndex_neg (by lia) h1, e], by lia, h1, by lia⟩
  ·rw [if_neg h1] at h; cases h
theorem IQ {α : Type} {xs : List α} {i : Int} {v : α} (h : atI xs i = some v) : ∃ j, seqIndex? i xs.length = some j ∧ xs[j]? = some v ∧ j < xs.length ∧ -(xs.length : Int) ≤ i ∧ i < xs.length := by
 unfold atI at h
 cases e : ixN xs.length i with
 | none => rw [e] at h; cases h
 | some j =>
  rw [e] at h
  obtain ⟨h1, h2, h3, h4⟩ := Kc e
  exact ⟨j, h1, h, h2, h3, h4⟩
theorem Gg {α : Type} {xs : List α} {j : Nat} {v : α} (h : xs[j]? = some v) : atI xs (j : Int) = some v := by
 have hj : j < xs.length := (List.getElem?_eq_some_iff.mp h).1
 have e : ixN xs.length (j : Int) = some j := by
  unfold ixN
  rw [if_pos (by lia), if_pos (by lia)]; simp
 unfold atI; rw [e]; exact h
noncomputable def IH (b : Expr) : Prop := ∀ o i, subscripted b false o i = operate [o, i] (getItem o i)
noncomputable def IxR (X : Cx) (r : R2) : Prop :=
 ∀ (value slice : Expr) (pins : List (Addr × Obj)) (s : Shared) (σ : St) (H : Hp) (x y : V) (v u : Value) (Q : VK), Inv X pins σ H s → RelV x v → RelV y u → r x y H Q →
  subscripted slice false v u = operate [v, u] (getItem v u) → wpAny (model X.prog X.w) X.A (subscriptTail value slice v u) (EP X pins σ Q) X.xe s
noncomputable def MtR (X : Cx) (id : String) (r : V → List V → Hp → VK → Prop) : Prop :=
 ∀ (pins : List (Addr × Obj)) (s : Shared) (σ : St) (H : Hp) (x : V) (xs : List V) (v : Value) (us : List Value) (Q : VK), Inv X pins σ H s → RelV x v → AT xs us → r x xs H Q →
  wpAny (model X.prog X.w) X.A (call (.builtin id) (v :: us)) (EP X pins σ Q) X.xe s
section
variable {X : Cx} {a b : Expr} {ta tb : TE} {pos : Pos}
theorem pe_ix {r : R2} (hr : IxR X r) (ha : PE X a ta) (hb : PE X b tb) (hs : IH b) : PE X (.Subscript a b pos) (tOp r ta tb) := by
 intro pins s σ H Q I h
 exact Subscript_ (PZ ha hb I h fun v u s2 x y H2 I2 rx ry q => hr a b pins s2 σ H2 x y v u Q I2 rx ry q (hs _ _))
noncomputable def Fa (K : PySem.W.Frag) : R2 := fun x y H Q => ∃ p xs i v, x = .ref p ∧ y = .int i ∧ SqL K H p xs ∧ atI xs i = some v ∧ Q v H
noncomputable def Ei (K : PySem.W.Frag) : R2 := fun x y H Q => ∃ p xs i v, x = .ref p ∧ y = .int i ∧ SqT K H p xs ∧ atI xs i = some v ∧ Q v H
theorem AY : IxR X (Fa X.K) := by
 intro value slice pins s σ H x y v u Q I rx ry h hs
 obtain ⟨p, xs, i, z, rfl, rfl, hq, he, q⟩ := h
 cases rx
 obtain ⟨t, rfl⟩ := ry
 obtain ⟨its, r, pl, hz⟩ := I.list hq
 obtain ⟨j, h1, h2, h3, h4, h5⟩ := IQ he
 obtain ⟨w, ew, rw'⟩ := r.get h2
 have hl := r.length
 have hn := F7
 have fin : EP X pins σ Q w s := ⟨z, H, I, rw', q⟩
 by_cases h0 : 0 ≤ i
 ·have hj : i.toNat = j := by
   rw [seqIndex_of h0 h5] at h1
   exact Option.some.inj h1
  exact item_listR pl.isList h0 (by lia) (by rw [hj]; simpa using ew) fin hs
 ·have hj : (i + (its.toArray.size : Int)).toNat = j := by
   rw [seqIndex_neg (by lia) h4] at h1
   rw [List.size_toArray, ← hl]
   exact Option.some.inj h1
  exact subscriptTail_builtinR (x := w) pl.isList.typeIs slot_list_getitem.lookup
   (wpAny_getItem_list_neg (Q := fun r s' => r = w ∧ EP X pins σ Q r s') pl.isList (by lia) (by rw [List.size_toArray] <;> lia) (by lia) (by rw [hj]; simpa using ew) ⟨rfl, fin⟩) hs
theorem BJ : IxR X (Ei X.K) := by
 intro value slice pins s σ H x y v u Q I rx ry h hs
 obtain ⟨p, xs, i, z, rfl, rfl, hq, he, q⟩ := h
 cases rx
 obtain ⟨t, rfl⟩ := ry
 obtain ⟨its, r, pl, hz⟩ := I.tuple hq
 obtain ⟨j, h1, h2, h3, h4, h5⟩ := IQ he
 obtain ⟨w, ew, rw'⟩ := r.get h2
 have hl := r.length
 have hn := F7
 have fin : EP X pins σ Q w s := ⟨z, H, I, rw', q⟩
 exact subscriptTail_builtinR (x := w) pl.typeIs slot_tuple_getitem.lookup
  (getItem_tuple (j := j) (Q := fun r s' => r = w ∧ EP X pins σ Q r s') pl (by lia) (by lia) (by rw [List.size_toArray, ← hl]; exact h1) (by simpa using ew) ⟨rfl, fin⟩) hs
noncomputable def Dq : V → V → V → Hp → (Hp → Prop) → Prop := fun o i v H Q => ∃ p xs k j, o = .ref p ∧ i = .int k ∧ H p = some (.lst xs) ∧ ixN xs.length k = some j ∧ Q (upd H p (.lst (xs.set j v)))
theorem GN (lo hi : Option Int) (n : Nat) : (sliceBounds lo hi none n).1 = ((HT.sIx n 0 lo : Nat) : Int) ∧ (sliceBounds lo hi none n).2.1 = ((HT.sIx n n hi : Nat) : Int) ∧ (sliceBounds lo hi none n).2.2 = 1 := by
 refine ⟨?_, ?_, rfl⟩
 ·cases lo with
  | none => simp [sliceBounds, HT.sIx]
  | some i =>
   simp only [sliceBounds, HT.sIx, Option.getD_none, show (1 : Int) > 0 by decide, if_true]
   by_cases h : i < 0
   ·simp only [h, if_true] <;> lia
   ·simp only [h, if_false] <;> lia
 ·cases hi with
  | none => simp [sliceBounds, HT.sIx]
  | some i =>
   simp only [sliceBounds, HT.sIx, Option.getD_none, show (1 : Int) > 0 by decide, if_true]
   by_cases h : i < 0
   ·simp only [h, if_true] <;> lia
   ·simp only [h, if_false] <;> lia
theorem Fe (its : List Value) (lo hi : Option Int) : slicePick its.toArray lo hi none = ((its.drop (HT.sIx its.length 0 lo)).take (HT.sIx its.length its.length hi - HT.sIx its.length 0 lo)).toArray := by
 obtain ⟨h1, h2, h3⟩ := GN lo hi its.toArray.size
 unfold slicePick
 rw [h1, h2, h3]
 simp only [sliceRange_one, pick_run, List.size_toArray] <;> rfl
noncomputable def rSlL (K : PySem.W.Frag) : V → Option Int → Option Int → Hp → VK → Prop := fun x lo hi H Q => ∃ a xs, x = .ref a ∧ SqL K H a xs ∧ ∀ p, H p = none → Q (.ref p) (upd H p (.lst (Ff xs lo hi)))
theorem Ko : SlR X (rSlL X.K) := by
 intro pins s σ H x v vl vu lo hi sl Q I rx hs pl pu h
 obtain ⟨a, xs, rfl, hx, q⟩ := h
 cases rx
 obtain ⟨its, r, ht, hz⟩ := I.list hx
 have hlen := r.length
 refine ⟨"list", _, slot_list_getitem.lookup, ht.isList.typeIs, ?_⟩
 refine wpAny_getItem_list_slice ht.isList hs pl pu .none (by simp) ?_ (by rw [List.size_toArray] <;> lia)
 rw [Fe, ← hlen]
 refine ⟨.ref s.heap.objs.size, _, I.laid (t' := s.toks) (o := .lst (Ff xs lo hi)) (fun b ob q => Heap.get?_push_of_some _ q) (Nat.le_refl _) ?_, rfl, q _ (I.hok.fresh (Nat.le_refl _))⟩
 exact ⟨Nat.le_trans (HH xs lo hi) hz, _, 0, (r.drop (HT.sIx xs.length 0 lo)).take (HT.sIx xs.length xs.length hi - HT.sIx xs.length 0 lo), Heap.get?_push_size _ rfl⟩
noncomputable def Dm : V → Bool
 | .non => true
 | .bl _ => true
 | .int _ => true
 | .str _ => true
 | _ => false
noncomputable def eqV : V → V → Bool
 | .non, .non => true
 | .bl a, .bl b => a == b
 | .bl a, .int b => (if a then 1 else 0) == b
 | .int a, .bl b => a == (if b then 1 else 0)
 | .int a, .int b => a == b
 | .str a, .str b => a == b
 | _, _ => false
theorem O6 {A : Around} {s : Shared} {y x : V} {u v : Value} (ry : RelV y u) (rx : RelV x v) (fy : Dm y = true) (fx : Dm x = true) : SeqAt.EqAt A s u v (eqV y x) := by
 cases y with
 | non =>
  cases ry
  cases x with
  | non => cases rx; exact SeqAt.EqAt.same _
  | bl b => cases rx; exact SeqAt.EqAt.none_bool b
  | int b => obtain ⟨t, rfl⟩ := rx; exact SeqAt.EqAt.none_int b t
  | str b => obtain ⟨t, rfl⟩ := rx; exact SeqAt.EqAt.none_str b t
  | _ => exact absurd (show false = true from fx) Bool.false_ne_true
 | bl a =>
  cases ry
  cases x with
  | non => cases rx; exact SeqAt.EqAt.bool_none a
  | bl b => cases rx; exact SeqAt.EqAt.bool_bool a b
  | int b => obtain ⟨t, rfl⟩ := rx; exact SeqAt.EqAt.bool_int a b t
  | str b => obtain ⟨t, rfl⟩ := rx; exact SeqAt.EqAt.bool_str a b t
  | _ => exact absurd (show false = true from fx) Bool.false_ne_true
 | int a =>
  obtain ⟨t', rfl⟩ := ry
  cases x with
  | non => cases rx; exact SeqAt.EqAt.int_none a t'
  | bl b => cases rx; exact SeqAt.EqAt.int_bool a t' b
  | int b => obtain ⟨t, rfl⟩ := rx; exact SeqAt.EqAt.int_int a t' b t
  | str b => obtain ⟨t, rfl⟩ := rx; exact SeqAt.EqAt.int_str a t' b t
  | _ => exact absurd (show false = true from fx) Bool.false_ne_true
 | str a =>
  obtain ⟨t', rfl⟩ := ry
  cases x with
  | non => cases rx; exact SeqAt.EqAt.str_none a t'
  | bl b => cases rx; exact SeqAt.EqAt.str_bool a t' b
  | int b => obtain ⟨t, rfl⟩ := rx; exact SeqAt.EqAt.str_int a t' b t
  | str b => obtain ⟨t, rfl⟩ := rx; exact SeqAt.EqAt.str_str a t' b t
  | _ => exact absurd (show false = true from fx) Bool.false_ne_true
 | _ => exact absurd (show false = true from fy) Bool.false_ne_true
noncomputable def eqU (x : V) (u : Value) : Bool := match u with
 | .none => eqV .non x
 | .bool b => eqV (.bl b) x
 | .int i _ => eqV (.int i) x
 | .str z _ => eqV (.str z) x
 | _ => false
theorem J6 {x y : V} {u : Value} (r : RelV y u) (f : Dm y = true) : eqU x u = eqV y x := by
 cases y with
 | non => cases r; rfl
 | bl b => cases r; rfl
 | int i => obtain ⟨t, rfl⟩ := r; rfl
 | str z => obtain ⟨t, rfl⟩ := r; rfl
 | _ => exact absurd (show false = true from f) Bool.false_ne_true
theorem Gi {x : V} : ∀ {xs : List V} {us : List Value}, AT xs us → xs.all Dm = true → us.any (eqU x) = xs.any fun y => eqV y x
 | _, _, .nil, _ => rfl
 | y :: xs, u :: us, .cons r t, f => by
  rw [List.all_cons, Bool.and_eq_true] at f
  rw [List.any_cons, List.any_cons, J6 r f.1, Gi t f.2]
theorem E2 {A : Around} {s : Shared} {x : V} {v : Value} (rx : RelV x v) (fx : Dm x = true) : ∀ {xs : List V} {us : List Value}, AT xs us → xs.all Dm = true → ∀ u ∈ us, SeqAt.EqAt A s u v (eqU x u)
 | _, _, .nil, _ => fun u hu => by cases hu
 | y :: xs, u :: us, .cons r t, f => fun u' hu => by
  rw [List.all_cons, Bool.and_eq_true] at f
  rcases List.mem_cons.mp hu with rfl | hu
  ·rw [J6 r f.1]; exact O6 r rx f.1 fx
  ·exact E2 rx fx t f.2 u' hu
noncomputable def inV (x : V) (xs : List V) : Bool := xs.any fun y => eqV y x
noncomputable def rIn (K : PySem.W.Frag) (neg : Bool) : R2 := fun x y H Q => ∃ p xs, y = .ref p ∧ (SqL K H p xs ∨ SqT K H p xs) ∧ Dm x = true ∧ xs.all Dm = true ∧ Q (.bl (if neg then !inV x xs else inV x xs)) H
theorem JA : OpR X (compareOp .In) (rIn X.K false) := by
 intro pins s σ H x y v u Q I rx ry h
 obtain ⟨p, xs, rfl, hq, fx, fs, q⟩ := h
 cases ry
 rcases hq with hq | hq
 ·obtain ⟨its, r, pl, hz⟩ := I.list hq
  refine SeqAt.in_listAt (eqU x) pl.isList (fun w hw => E2 rx fx r fs w (by simpa using hw)) ⟨.bl _, H, I, rfl, ?_⟩
  rw [show its.toArray.any (eqU x) = its.any (eqU x) by simp, Gi r fs]
  exact q
 ·obtain ⟨its, r, pl, hz⟩ := I.tuple hq
  refine SeqAt.in_tupleAt (eqU x) pl (fun w hw => E2 rx fx r fs w (by simpa using hw)) ⟨.bl _, H, I, rfl, ?_⟩
  rw [show its.toArray.any (eqU x) = its.any (eqU x) by simp, Gi r fs]
  exact q
theorem AR : BF X (.builtin "len") (fun xs H Q => ∃ p ys, xs = [.ref p] ∧ (SqL X.K H p ys ∨ SqT X.K H p ys) ∧ Q (.int ys.length) H) := by
 intro pins s σ H xs us Q I r h
 obtain ⟨p, ys, rfl, hq, q⟩ := h
 obtain ⟨u, rfl, rx⟩ := vals1 r
 cases rx
 have hn := F7
 rcases hq with hq | hq
 ·obtain ⟨its, r', pl, hz⟩ := I.list hq
  have hlen := r'.length
  exact Calls.call_len_list pl.isList (by simp only [List.size_toArray] <;> lia) ⟨.int ys.length, H, I.tok _, ⟨s.toks + 1, by rw [List.size_toArray, hlen]⟩, q⟩
 ·obtain ⟨its, r', pl, hz⟩ := I.tuple hq
  have hlen := r'.length
  exact len_tuple pl (by simp only [List.size_toArray] <;> lia) ⟨.int ys.length, H, I.tok _, ⟨s.toks + 1, by rw [List.size_toArray, hlen]⟩, q⟩
theorem Dp : BF X (.builtin "len") (fun xs H Q => ∃ z, xs = [.str z] ∧ z.length ≤ sizeLine ∧ Q (.int z.length) H) := by
 intro pins s σ H xs us Q I r h
 obtain ⟨z, rfl, hz, q⟩ := h
 obtain ⟨u, rfl, t, rfl⟩ := vals1 r
 have hn := F7
 exact len_str (by lia) ⟨.int z.length, H, I.tok _, ⟨_, rfl⟩, q⟩
theorem Ge : BF X (.type "list") (fun xs H Q => ∃ p ys, xs = [.ref p] ∧ (SqL X.K H p ys ∨ SqT X.K H p ys) ∧ ∀ l, H l = none → Q (.ref l) (upd H l (.lst ys))) := by
 intro pins s σ H xs us Q I r h
 obtain ⟨p, ys, rfl, hq, q⟩ := h
 obtain ⟨u, rfl, rx⟩ := vals1 r
 cases rx
 have fin : ∀ (its : List Value), AT ys its → ys.length ≤ sizeLine → ∀ (h' : Heap) (c' : Nat), (∀ b o', s.heap.get? b = some o' → h'.get? b = some o') →
   h'.get? s.heap.objs.size = some { cls := .type "list", dict := none, data := .seq its.toArray c', slots := #[] } → EP X pins σ Q (.ref s.heap.objs.size) { s with heap := h' } := fun its r' hz h' c' kp e =>
  ⟨.ref s.heap.objs.size, _, I.laid (t' := s.toks) kp (Nat.le_refl _) (show As X.prog X.w _ h' _ (.lst ys) from ⟨hz, its, c', r', e⟩), rfl, q _ (I.hok.fresh (Nat.le_refl _))⟩
 rcases hq with hq | hq
 ·obtain ⟨its, r', pl, hz⟩ := I.list hq
  have hlen := r'.length
  obtain ⟨o, ho, hc, n, hd⟩ := pl.isList
  exact call_list_seq p (.inl rfl) ho hc hd (fun h' c' kp e => fin its r' hz h' c' kp e) (by simp only [List.size_toArray] <;> lia)
 ·obtain ⟨its, r', pl, hz⟩ := I.tuple hq
  have hlen := r'.length
  obtain ⟨o, ho, hc, n, hd⟩ := pl
  exact call_list_seq p (.inr rfl) ho hc hd (fun h' c' kp e => fin its r' hz h' c' kp e) (by simp only [List.size_toArray] <;> lia)
noncomputable def tyV (K : PySem.W.Frag) (T : String) (x : V) (H : Hp) : Prop := match x with
 | .str _ => T = "str"
 | .int _ => T = "int"
 | .ref p => (T = "list" ∧ ∃ xs, SqL K H p xs) ∨ (T = "tuple" ∧ ∃ o, K.lookup p = some o ∧ o.cls = .type "tuple" ∧ o.dict = none) ∨
   (T = "dict" ∧ ((∃ kvs, H p = some (.dK kvs)) ∨ ∃ kvs, H p = some (.dT kvs))) ∨ (T = "set" ∧ ∃ S n, H p = some (.set S n))
 | _ => False
theorem JW {pins : List (Addr × Obj)} {σ : St} {H : Hp} {s : Shared} {T : String} {x : V} {v : Value} (I : Inv X pins σ H s) (r : RelV x v) (ty : tyV X.K T x H) :
  s.TypeIs v T ∧ ∀ a, v = .ref a → ∃ ob, s.heap.get? a = some ob ∧ ob.dict = none := by
 cases x with
 | str z =>
  obtain ⟨t, rfl⟩ := r
  cases (show T = "str" from ty)
  exact ⟨typeIs_str s z t, fun _ e => nomatch e⟩
 | int i =>
  obtain ⟨t, rfl⟩ := r
  cases (show T = "int" from ty)
  exact ⟨typeIs_int s i t, fun _ e => nomatch e⟩
 | ref p =>
  cases r
  rcases ty with ⟨rfl, xs, hq⟩ | ⟨rfl, o, hk, hc, hd⟩ | ⟨rfl, hk⟩ | ⟨rfl, S, n, hk⟩
  ·obtain ⟨its, _, pl, _⟩ := I.list hq
   refine ⟨pl.isList.typeIs, fun a e => ?_⟩
   cases e
   obtain ⟨o, n, e, c, hd, _⟩ := pl
   exact ⟨o, e, hd⟩
  ·refine ⟨⟨o, I.kIn p o hk, hc⟩, fun a e => ?_⟩
   cases e
   exact ⟨o, I.kIn _ o hk, hd⟩
  ·have z : ∃ o, s.heap.get? p = some o ∧ o.ExactDict := by
    rcases hk with ⟨kvs, hk⟩ | ⟨kvs, hk⟩
    ·obtain ⟨_, _, _, _, o, _, _, e, ex, _⟩ := I.hok p _ hk
     exact ⟨o, e, ex⟩
    ·obtain ⟨_, _, _, _, o, _, _, e, ex, _⟩ := I.hok p _ hk
     exact ⟨o, e, ex⟩
   obtain ⟨o, e, ex⟩ := z
   refine ⟨⟨o, e, ex.1⟩, fun a e2 => ?_⟩
   cases e2
   exact ⟨o, e, ex.2.1⟩
  ·obtain ⟨o, _, _, _, e, ex, _⟩ := I.hok p _ hk
   refine ⟨⟨o, e, ex.1⟩, fun a e2 => ?_⟩
   cases e2
   exact ⟨o, e, ex.2.1⟩
 | _ => exact False.elim ty
noncomputable def tBM0 (K : PySem.W.Frag) (T : String) (r : V → List V → Hp → VK → Prop) (to : TE) : TE := fun σ H Q => to σ H fun x H1 => tyV K T x H1 ∧ r x [] H1 Q
noncomputable def tBM (K : PySem.W.Frag) (T : String) (r : V → List V → Hp → VK → Prop) (to : TE) (t : TA) : TE := fun σ H Q => to σ H fun x H1 => tyV K T x H1 ∧ t σ H1 fun xs H2 => r x xs H2 Q
variable {o e : Expr} {es : List Expr} {to : TE} {t : TA} {name : Str} {apos cpos : Pos} {T id : String} {r : V → List V → Hp → VK → Prop}
theorem OU (pa : PlainAttrs T) (slot : Slot T name id) (hty : typeOf (.builtin id) = pure (.type "method_descriptor")) (hm : MtR X id r) (ho : PE X o to)
  (hbase : attributeBase o name X.env (eval o X.env) = eval o X.env := by rfl) (hline : (apos.endLine == cpos.line) = true := by rfl) : PE X (.Call (.Attribute o name apos) [] [] cpos) (tBM0 X.K T r to) := by
 intro pins s σ H Q I h
 refine wpAny_Call_method0_late hbase hline (thn (ho pins s σ H _ I h) fun v s1 zq => ?_)
 obtain ⟨x, H1, I1, r1, ty, q1⟩ := zq
 obtain ⟨h1, h2⟩ := JW I1 r1 ty
 exact ⟨T, id, pa, slot, hty, h1, h2, Calls.callWith_builtin rfl (PySem.evalArgs_none (hm pins s1 σ H1 x [] v [] Q I1 r1 .nil q1))⟩
theorem EI (pa : PlainAttrs T) (slot : Slot T name id) (hty : typeOf (.builtin id) = pure (.type "method_descriptor")) (hm : MtR X id r) (ho : PE X o to) (ha : PA X (e :: es) t)
  (hbase : attributeBase o name X.env (eval o X.env) = eval o X.env := by rfl)
  (hfew : ((backTo cpos (starEach (e :: es) X.env)).all (fun x => !x.1) && (backToKw cpos (keywordEach [] X.env)).all (fun x => x.1.isSome)
   && decide ((e :: es).length + ([] : List Keyword).length + (if ([] : List Keyword).isEmpty then 0 else 1) < 30)) = true := by rfl)
  (hline : (apos.endLine == cpos.line) = true := by rfl) (hs : starEach (e :: es) X.env = (false, eval e X.env) :: starEach es X.env := by rfl) (hplain : (backTo cpos (starEach es X.env)).any (·.1) = false := by rfl) :
  PE X (.Call (.Attribute o name apos) (e :: es) [] cpos) (tBM X.K T r to t) := by
 intro pins s σ H Q I h
 refine wpAny_Call_method_late hbase hfew hline rfl (thn (ho pins s σ H _ I h) fun v s1 zq => ?_)
 obtain ⟨x, H1, I1, r1, ty, q1⟩ := zq
 obtain ⟨h1, h2⟩ := JW I1 r1 ty
 refine ⟨T, id, pa, slot, hty, h1, h2, ?_⟩
 have hA := ha cpos pins s1 σ H1 _ I1 q1
 rw [hs] at hA ⊢
 refine Calls.callWith_builtin (by show (false || (backTo cpos (starEach es X.env)).any (·.1)) = false; rw [hplain] <;> rfl) (Calls.evalArgs_plain ?_)
 exact thn hA fun us s2 ⟨vs, H2, I2, r2, q2⟩ => hm pins s2 σ H2 x vs v us Q I2 r1 r2 q2
end
noncomputable def MtM (X : Cx) (id : String) (r : V → List V → Hp → VK → Prop) : Prop :=
 ∀ (pins : List (Addr × Obj)) (s : Shared) (σ : St) (H : Hp) (x : V) (xs : List V) (v : Value) (us : List Value) (Q : VK), Inv X pins σ H s → RelV x v → AT xs us → r x xs H Q →
  wpAny (model X.prog X.w) X.A (call (.builtin id) (v :: us)) (EP X pins σ Q) X.xe s
theorem AT.one {x : V} {us : List Value} (h : AT [x] us) : ∃ u, us = [u] ∧ RelV x u := by
 cases h with
 | cons r q =>
  cases q
  exact ⟨_, rfl, r⟩
theorem AT.zero : ∀ {us : List Value}, AT [] us → us = []
 | _, .nil => rfl
theorem AT.dropLast {xs : List V} {us : List Value} (h : AT xs us) : AT xs.dropLast us.dropLast := by
 induction h with
 | nil => exact .nil
 | cons r t ih =>
  cases t with
  | nil => exact .nil
  | cons q t' => exact .cons r ih
theorem HP {α : Type} (l : List α) : l.eraseIdx (l.length - 1) = l.dropLast := by
 induction l with
 | nil => rfl
 | cons a r ih =>
  cases r with
  | nil => rfl
  | cons b r =>
   have e : (a :: b :: r).length - 1 = ((b :: r).length - 1) + 1 := by
    have h1 : (a :: b :: r).length = r.length + 2 := rfl
    have h2 : (b :: r).length = r.length + 1 := rfl
    lia
   rw [e, List.eraseIdx_cons_succ, ih]
   all_goals rfl
section
variable {X : Cx} {pins : List (Addr × Obj)} {σ : St} {H : Hp} {s : Shared} {l b : Addr} {xs ys zs : List V}
theorem Inv.lset {its its' : List Value} {n : Nat} {f : Array Value → Array Value} {t' : Nat} (I : Inv X pins σ H s) (hH : H l = some (.lst xs))
  (e : s.heap.get? l = some { cls := .type "list", data := .seq its.toArray n }) (hf : f its.toArray = its'.toArray) (hv : AT ys its') (hz : ys.length ≤ sizeLine) :
  Inv X pins σ (upd H l (.lst ys)) { s with heap := s.heap.update l (Obj.mapSeq f), toks := t' } := by
 have q := PySem.IsL.update e f
 rw [hf] at q
 refine I.write (x := l) (e := l) (by rw [hH]; exact trivial) (.inl rfl) (fun b' u hb hu => (Heap.get?_update_other s.heap (Obj.mapSeq f) (Ne.symm hb)).trans hu) ⟨_, q⟩ ?_
 exact ⟨hz, its', _, hv, q⟩
theorem Inv.lnew {its : List Value} {t' : Nat} (I : Inv X pins σ H s) (hv : AT ys its) (hz : ys.length ≤ sizeLine) :
  Inv X pins σ (upd H s.heap.objs.size (.lst ys)) { s with heap := s.heap.push { cls := .type "list", data := .seq its.toArray }, toks := t' } :=
 I.laid (fun _ _ q => Heap.get?_push_of_some _ q) (Nat.le_refl _) ⟨hz, its, 0, hv, Heap.get?_push_size _ rfl⟩
theorem Inv.fresh (I : Inv X pins σ H s) : H s.heap.objs.size = none := I.hok.fresh (Nat.le_refl _)
theorem Inv.lstM (I : Inv X pins σ H s) (hH : H l = some (.lst xs)) : xs.length ≤ sizeLine ∧ ∃ (its : List Value) (n : Nat), AT xs its ∧ xs.length = its.length ∧ s.heap.get? l = some { cls := .type "list", data := .seq its.toArray n } := by
 obtain ⟨z, its, n, r, e⟩ := I.hok l _ hH
 exact ⟨z, its, n, r, r.length, e⟩
end
section
variable {X : Cx}
noncomputable def K7 : V → List V → Hp → VK → Prop := fun x vs H Q => ∃ l xs y, x = .ref l ∧ vs = [y] ∧ H l = some (.lst xs) ∧ xs.length < sizeLine ∧ Q .non (upd H l (.lst (xs ++ [y])))
theorem Dz : MtM X "list.append" K7 := by
 intro pins s σ H x vs v us Q I rx rv h
 obtain ⟨l, xs, y, rfl, rfl, hH, hz, q⟩ := h
 cases rx
 obtain ⟨u, rfl, ru⟩ := rv.one
 obtain ⟨z, its, n, r, hl, e⟩ := I.lstM hH
 refine call_meets F.slot_list_append ⟨_, e, rfl⟩ F.entry_list_append (F.args_list_append_2 _ _) (PySem.list_append l its.toArray n u (by rw [List.size_toArray]; lia)) ⟨e, ?_⟩
 refine ⟨.non, _, I.lset (its' := its ++ [u]) hH e (by simp) (r.append (.cons ru .nil)) ?_, rfl, q⟩
 rw [List.length_append, List.length_singleton]
 lia
noncomputable def rPop : V → List V → Hp → VK → Prop := fun x vs H Q => ∃ l xs y, x = .ref l ∧ vs = [] ∧ H l = some (.lst xs) ∧ xs[xs.length - 1]? = some y ∧ Q y (upd H l (.lst xs.dropLast))
theorem PC : MtM X "list.pop" rPop := by
 intro pins s σ H x vs v us Q I rx rv h
 obtain ⟨l, xs, y, rfl, rfl, hH, hy, q⟩ := h
 cases rx
 have hus := rv.zero
 subst hus
 obtain ⟨z, its, n, r, hl, e⟩ := I.lstM hH
 obtain ⟨u, hu, ru⟩ := r.get hy
 have hy' : its.toArray[its.toArray.size - 1]? = some u := by
  show its.toArray[its.length - 1]? = some u
  rw [← Array.getElem?_toList, ← hl]
  exact hu
 refine call_meets F.slot_list_pop ⟨_, e, rfl⟩ F.entry_list_pop (F.args_list_pop_1 _) (MeetsSeq.list_pop_last l its.toArray n u hy' (by rw [List.size_toArray]; lia)) ⟨e, ?_⟩
 refine ⟨y, _, I.lset (its' := its.dropLast) hH e ?_ r.dropLast ?_, ru, q⟩
 ·show its.toArray.eraseIdxIfInBounds (its.toArray.size - 1) = its.dropLast.toArray
  rw [List.size_toArray, List.eraseIdxIfInBounds_toArray, HP]
 ·rw [List.length_dropLast]
  lia
noncomputable def rCat : R2 := fun x y H Q => ∃ l b xs zs, x = .ref l ∧ y = .ref b ∧ H l = some (.lst xs) ∧ H b = some (.lst zs) ∧ xs.length + zs.length ≤ sizeLine ∧ ∀ p, H p = none → Q (.ref p) (upd H p (.lst (xs ++ zs)))
theorem Mx : OpR X (binaryOp .Add) rCat := by
 intro pins s σ H x y v u Q I rx ry h
 obtain ⟨l, b, xs, zs, rfl, rfl, hH, hB, hz, q⟩ := h
 cases rx
 cases ry
 obtain ⟨z, its, n, r, hl, e⟩ := I.lstM hH
 obtain ⟨z2, its2, n2, r2, hl2, e2⟩ := I.lstM hB
 refine PySem.P.add_list e e2 ?_ (by rw [List.size_toArray, List.size_toArray]; lia)
 have ea : its.toArray ++ its2.toArray = (its ++ its2).toArray := by simp
 rw [ea]
 exact ⟨.ref _, _, I.lnew (t' := s.toks) (r.append r2) (by rw [List.length_append]; lia), rfl, q _ I.fresh⟩
end
section
variable {prog : Program} {w : World} {A : Around} {E : Value → Shared → Prop} {s : Shared}
set_option maxRecDepth 100000 in
end
section
variable {X : Cx}
end
section
variable {κ : Type} [DecidableEq κ]
noncomputable def PL (kvs : List (κ × V)) (k : κ) : Option V := (kvs.find? fun kv => decide (kv.1 = k)).map (·.2)
noncomputable def putK (kvs : List (κ × V)) (k : κ) (v : V) : List (κ × V) :=
 if (kvs.any fun kv => decide (kv.1 = k)) = true then kvs.map (fun kv => if kv.1 = k then (kv.1, v) else kv) else kvs ++ [(k, v)]
noncomputable def dropK (kvs : List (κ × V)) (k : κ) : List (κ × V) := kvs.filter fun kv => decide (kv.1 ≠ k)
end
section
variable {P : Program} {w : World} {H : Hp} {h : Heap} {a : Addr}
end
noncomputable def LJ (H : Hp) (a : Addr) (y : V) (r : Option V) : Prop :=
 (∃ kvs k, Rd H a (.dK kvs) ∧ y = kV k ∧ r = PL kvs k) ∨ ∃ kvs k b, Rd H a (.dT kvs) ∧ y = .ref b ∧ H b = some (.tup (k.map kV)) ∧ r = PL kvs k
noncomputable def DPut (H : Hp) (a : Addr) (y v : V) (H' : Hp) : Prop :=
 (∃ kvs k, H a = some (.dK kvs) ∧ y = kV k ∧ kvs.length < sizeLine ∧ H' = upd H a (.dK (putK kvs k v))) ∨
 ∃ kvs k b, H a = some (.dT kvs) ∧ y = .ref b ∧ H b = some (.tup (k.map kV)) ∧ kvs.length < sizeLine ∧ H' = upd H a (.dT (putK kvs k v))
section
variable {X : Cx} {pins : List (Addr × Obj)} {σ : St} {H : Hp} {s : Shared} {a : Addr} {y v : V} {u r : Value} {o : Option V} {A : Around} {E : Value → Shared → Prop}
end
section
variable {X : Cx} {pins : List (Addr × Obj)} {σ : St} {H : Hp} {s : Shared} {a : Addr} {kvs : List (Key × V)} {k : Key} {u : Value} {A : Around} {E : Value → Shared → Prop}
end
noncomputable def DW (td ty : TE) : TE := fun σ H Q => td σ H fun x H1 => ty σ H1 fun y H2 => ∃ a v, x = .ref a ∧ LJ H2 a y (some v) ∧ Q v H2
noncomputable def GI (ty td : TE) : TE := fun σ H Q => ty σ H fun y H1 => td σ H1 fun x H2 => ∃ a o, x = .ref a ∧ LJ H2 a y o ∧ Q (.bl o.isSome) H2
noncomputable def BP (ty td : TE) : TE := fun σ H Q => ty σ H fun y H1 => td σ H1 fun x H2 => ∃ a o, x = .ref a ∧ LJ H2 a y o ∧ Q (.bl (!o.isSome)) H2
noncomputable def Dd (td ty tv : TE) : TS := fun D σ H => tv σ H fun v H1 => td σ H1 fun x H2 => ty σ H2 fun y H3 => ∃ a H4, x = .ref a ∧ DPut H3 a y v H4 ∧ D.nx σ H4
section
variable {X : Cx} {o i e value : Expr} {pos pos' tpos : Pos} {td ty tv : TE}
end
section
variable {X : Cx} {pos : Pos}
end
structure M1 (X : Cx) (o : Expr) (m : Str) (apos : Pos) (e : Expr) (cpos : Pos) : Prop where
 base : attributeBase o m X.env (eval o X.env) = eval o X.env
 few : ((backTo cpos (starEach [e] X.env)).all (fun x => !x.1) && (backToKw cpos (keywordEach [] X.env)).all (fun x => x.1.isSome)
  && decide (([e] : List Expr).length + ([] : List Keyword).length + (if ([] : List Keyword).isEmpty then 0 else 1) < 30)) = true
 line : (apos.endLine == cpos.line) = true
 trees : backTo cpos (starEach [e] X.env) = [(false, eval e X.env)]
noncomputable def IsD (H : Hp) (a : Addr) : Prop := (∃ kvs, Rd H a (.dK kvs)) ∨ ∃ kvs, Rd H a (.dT kvs)
section
variable {X : Cx} {pins : List (Addr × Obj)} {σ : St} {H : Hp} {s : Shared} {a : Addr} {y d : V} {u r : Value} {o : Option V} {A : Around} {E : Value → Shared → Prop}
end
noncomputable def B5 (td ty tx : TE) : TE := fun σ H Q => td σ H fun x H1 => ∃ a, x = .ref a ∧ IsD H1 a ∧ ty σ H1 fun y H2 => tx σ H2 fun z H3 => ∃ o, LJ H3 a y o ∧ Q (o.getD z) H3
noncomputable def CA (td ty : TE) : TE := fun σ H Q => td σ H fun x H1 => ∃ a, x = .ref a ∧ IsD H1 a ∧ ty σ H1 fun y H2 => ∃ kvs k v, H2 a = some (.dK kvs) ∧ y = kV k ∧ PL kvs k = some v ∧ Q v (upd H2 a (.dK (dropK kvs k)))
section
variable {X : Cx} {o e f : Expr} {apos cpos : Pos} {td ty tx : TE}
end
section
variable {X : Cx} {pins : List (Addr × Obj)} {σ : St} {H : Hp} {s : Shared} {a : Addr} {kvs : List (Key × V)} {A : Around} {E : Value → Shared → Prop}
end
section
variable {X : Cx} {pins : List (Addr × Obj)} {σ : St} {H : Hp} {s : Shared} {a : Addr} {y : V} {u : Value} {A : Around} {E : Value → Shared → Prop}
end
end L2
namespace Att
open PySem PySem.W PySem.Calls PyProof.Rows
theorem ints_of_wellAll {P : Params} {h : Heap} : ∀ (ns : List Int) (vs : List Value), WellAll P h vs (ns.map WData.int) → IntsAre vs ns := by
 intro ns
 induction ns with
 | nil =>
  intro vs w
  rw [List.map_nil] at w
  cases w
  exact .nil
 | cons n ns ih =>
  intro vs w
  rw [List.map_cons] at w
  cases w with
  | cons a b =>
   cases a
   exact .cons _ _ (ih _ b)
theorem script_of {l : OpenLaw} {n : Nat} (hn : l.most = some n) {P : Params} {h : Heap} {args : List WData} {vals : List Value}
  (hpre : l.row.toRowW.claim.pre args = true) (hwl : WellAll P h vals args) :
  ∃ a vs ns, vals = [Value.ref a] ∧ args = [WData.list (ns.map WData.int)] ∧ h.get? a = some { cls := .type "list", data := .seq vs.toArray } ∧ IntsAre vs ns ∧ ns.length ≤ n := by
 have hsh : WShape.hasAll [] args [.list .int] = true := (pre_splitW hpre).1
 have hc : l.pre.holds [] { args := args } = true := (pre_splitW hpre).2
 obtain ⟨d, r, rfl, h1, h2⟩ := hasAllW_cons hsh
 obtain rfl := hasAllW_nil h2
 obtain ⟨xs, rfl, h3⟩ := hasW_list h1
 obtain ⟨ns, rfl⟩ := items_int h3
 have hlen : ns.length ≤ n := by
  unfold OpenLaw.pre at hc
  have h4 : (WTm.not (.lt (.lit (.int (n : Int))) (.len (.arg 0)))).holds [] { args := [.list (ns.map .int)] } = true := by
   have h4 := (holds_andW hc).1
   rw [hn] at h4
   exact h4
  have h5 := condW_of h4 (w_not (w_lt w_lit (w_len_list (w_arg rfl))))
  rw [List.length_map] at h5
  refine Nat.le_of_not_lt fun q => ?_
  have q' : (n : Int) < ((ns.length : Nat) : Int) := by lia
  first
   | (rw [decide_eq_true q'] at h5; exact absurd h5 (by decide))
   | (simp at h5; lia)
 cases hwl with
 | cons w1 w2 =>
  cases w2
  cases w1 with
  | list ho hall => exact ⟨_, _, ns, rfl, rfl, ho, ints_of_wellAll ns _ hall, hlen⟩
theorem post_true (l : OpenLaw) (args : List WData) : l.row.toRowW.claim.post args (.bool true) args = true :=
 postW_of (r := l.row.toRowW) (X := (true == true))
  (show WShape.has [] (.bool true) .bool = true by first | rfl | decide | simp [WShape.has, WShape.arms, WShape.armsAll])
  (show (WTm.eq .res (.lit (.bool true))).value [] { args := args, res := some (.bool true), after := args } = some (.bool (true == true)) from w_eq_bool (w_res rfl) w_lit) rfl
theorem attach_call {l : OpenLaw} {n : Nat} {q : Program} {loose : List Str} {XP : (Str → Option Value) → Heap → Prop} {YP : World → Heap → Prop} {d : DefRec}
  (hn : l.most = some n) (hdf : d.params.defaults = [])
  (call : ∀ (w : World) (s₀ s₁ : Shared) (mg mb : Str → Option Value) (fa : Addr) (o : Obj) (pm cd doc : Value) (a : Addr) (vs : List Value) (ns : List Int),
   Ground q loose [] XP w s₀ mg mb s₁.heap → YP w s₁.heap →
   s₁.heap.get? fa = some o → o.data = .func (docDef d.name d.params d.body d.scope pm cd doc) → s₁.heap.CodeRec cd d.name → mg d.name = some (.ref fa) →
   s₁.heap.get? a = some { cls := .type "list", data := .seq vs.toArray } → IntsAre vs ns → ns.length ≤ n → s₁.gens = #[] →
   codeAny (model l.prog w) callerA (.call (.ref fa) ⟨[.ref a], []⟩) (fun r s' => r = .ok (.ret (.bool true)) ∧ OldK s₁.heap s'.heap ∧ s'.os = s₁.os ∧ AllBare s'.gens) s₁) :
  WalkO q loose XP YP l.row.toRowW d [] (fun f vs => PySem.call f vs) := by
 intro w s₀ s₁ mg mb G Y fa o pm cd doc dV kV ho hd hcd hD hmg hg args vals as hpre hlay hrd hwl hlo
 obtain rfl : dV = .none := Dflts.none hD hdf
 obtain rfl : kV = .none := Dflts.noKw hD
 obtain ⟨a, vs, ns, rfl, rfl, hobj, hints, hlen⟩ := script_of hn hpre hwl
 refine enter_call (codeAny_mono (call w s₀ s₁ mg mb fa o pm cd doc a vs ns G Y ho (fd_plain hd) hcd hmg hobj hints hlen hg) fun r s' hq => ?_)
 obtain ⟨rfl, h2, h3, h4⟩ := hq
 exact ⟨.inl ⟨.bool true, .bool true, [], rfl, fun _ => rfl, .bool true, post_true l _, fun _ => ⟨List.Pairwise.nil, fun _ hm => (nomatch hm)⟩⟩, h2, h3, h4⟩
section
variable {prog : Program} {w : World} {A : Around} {E : Value → Shared → Prop} {s : Shared} {K : Frag}
end
end Att
namespace L2
open PySem PySem.Spec PyProof.Rows
theorem F3 : ∀ {vs : List Value} {ns : List Int}, IntsAre vs ns → AT (ns.map V.int) vs
 | _, _, .nil => .nil
 | _, _, .cons n t h => .cons ⟨t, rfl⟩ (F3 h)
noncomputable def L6 (H : Hp) : Prop := ∀ b, H b = none ∨ ∃ o xs, H b = some (.frz o (.lst xs))
theorem KS {P : Program} {w : World} {K : PySem.W.Frag} {mg mb : Str → Option Value} {CX : CXT} {k : Nat} {fa a : Addr} {fd : FuncData} {x : Str} {sp : Sp} {s₁ : Shared} {vs : List Value} {ns : List Int}
  (KX : K.In s₁.heap) (hns : s₁.heap.Ns mainGlobals mg) (hb : s₁.heap.Ns builtinsNs mb) (hbb : ∀ x : Str, x ≠ "__name__" → mb x = bootBuiltins x) (hlim : s₁.heap.NoLimit) (hg : s₁.gens = #[])
  (ha : s₁.heap.get? a = some { cls := .type "list", data := .seq vs.toArray }) (hi : IntsAre vs ns) (hl : ns.length ≤ sizeLine) (hr : A1 k callerA)
  (F : ∀ base : Heap, K.In base → base.Ns mainGlobals mg → Ad P w K mg base CX k fa fd [x] sp) (hbind : ∀ (s : Shared) (u : Value), BindsTo s fd ⟨[u], []⟩ [(x, u)])
  (hsp : ∀ H : Hp, L6 H → SqL K H a (ns.map V.int) → sp [.ref a] H (fun v _ => v = .bl true) fun _ _ _ => False)
  (hCX : ∀ H e s', CX [] H s₁ (fun _ _ _ => False) e s' → False) :
  codeAny (model P w) callerA (.call (.ref fa) ⟨[.ref a], []⟩) (fun r s' => r = .ok (.ret (.bool true)) ∧ OldK s₁.heap s'.heap ∧ s'.os = s₁.os ∧ AllBare s'.gens) s₁ := by
 have rv := F3 hi
 have lenV := hi.length
 have core : ∀ H : Hp, L6 H → SqL K H a (ns.map V.int) → HOk P w H s₁.heap → (∀ b, H b ≠ none → b = a) → (H a ≠ none → K.lookup a = none) →
   codeAny (model P w) callerA (.call (.ref fa) ⟨[.ref a], []⟩) (fun r s' => r = .ok (.ret (.bool true)) ∧ OldK s₁.heap s'.heap ∧ s'.os = s₁.os ∧ AllBare s'.gens) s₁ := by
  intro H hO hS hok hA hK
  have base_of : ∀ {b : Addr} {o : Obj}, s₁.heap.get? b = some o → H b = none → (GE s₁.heap H).get? b = some o := fun e n => Jm e n
  have noA : ∀ {b : Addr} {o : Obj} {es : Array DictEntry} {ep : Nat}, s₁.heap.get? b = some o → o.data = .dict es ep → H b = none := fun {b o es ep} e d => by
   cases q : H b with
   | none => rfl
   | some u =>
    have e' : b = a := hA b (by rw [q]; simp)
    subst e'
    rw [ha] at e; cases e
    have d' : Data.seq vs.toArray _ = Data.dict es ep := d
    cases d'
  have nsK : ∀ {b : Addr} {m : Str → Option Value}, s₁.heap.Ns b m → (GE s₁.heap H).Ns b m := fun {b m} ⟨o, es, ep, e, d, r⟩ => ⟨o, es, ep, base_of e (noA e d), d, r⟩
  have hKb : K.In (GE s₁.heap H) := fun b o e => base_of (KX b o e) (by
   cases q : H b with
   | none => rfl
   | some u =>
    have e' : b = a := hA b (by rw [q]; simp)
    subst e'
    rw [hK (by rw [q]; simp)] at e; cases e)
  have hM : Mod K mg (GE s₁.heap H) := ⟨hKb, nsK hns, ⟨mb, nsK hb, hbb⟩, let ⟨mc, h1, h2⟩ := hlim; ⟨mc, nsK h1, h2⟩⟩
  have e0 : Hz P w K mg (GE s₁.heap H) callerA [] s₁ H := ⟨rfl, hM, fun b o e => LG e, Nat.le_of_eq (JF _ _), trivial, fun b hb => absurd (show b ∈ ([] : List Addr) from hb) (by simp), hok, .of_eq hg⟩
  refine codeAny_mono ((F _ hKb (nsK hns)).run callerA [] s₁ H ⟨[.ref a], []⟩ [.ref a] [.ref a] _ _ hr e0 (hbind s₁ (.ref a)) (.cons rfl .nil) (hsp H hO hS)) fun r s' h => ?_
  cases r with
  | error e => exact (hCX H e s' h).elim
  | ok fl =>
   cases fl with
   | next => exact False.elim h
   | brk => exact False.elim h
   | cont => exact False.elim h
   | ret u =>
    obtain ⟨v, H', os, bare, un, hok', r', q⟩ := h
    have q' : v = .bl true := q
    subst q'
    obtain rfl : u = Value.bool true := r'
    refine ⟨rfl, OldK.of_keep fun b o e => ?_, os, bare⟩
    cases q : H b with
    | none => exact un.keep b o e q (by intro z; exact absurd (show b ∈ ([] : List Addr) from z) (by simp)) (by simp)
    | some u =>
     rcases hO b with z | ⟨ob, xs, z⟩
     ·rw [q] at z; cases z
     ·have z2 := un.frzs b ob _ z
      obtain ⟨e1, _⟩ := hok b _ z
      obtain ⟨e2, _⟩ := hok' b _ z2
      rw [e] at e1; cases e1
      exact e2
 cases hk : K.lookup a with
 | some o =>
  have e := KX a o hk
  rw [ha] at e
  cases e
  refine core (fun _ => none) (fun _ => .inl rfl) (.inr ⟨_, vs.toArray, _, hk, rfl, rfl, rfl, by rw [List.size_toArray, lenV]; exact hl, by simpa using rv⟩) (fun b u z => by have z' : (none : Option HO) = some u := z; cases z') (fun b z => absurd rfl z) fun z => absurd rfl z
 | none =>
  refine core (fun b => if b = a then some (.frz { cls := .type "list", data := .seq vs.toArray } (.lst (ns.map V.int))) else none) (fun b => ?_) (.inl (.inr ⟨{ cls := .type "list", data := .seq vs.toArray }, if_pos rfl⟩)) (fun b u z => ?_) (fun b z => ?_) fun _ => hk
  ·by_cases hb : b = a
   ·exact .inr ⟨_, _, if_pos hb⟩
   ·exact .inl (if_neg hb)
  ·by_cases hb : b = a
   ·have z' := (if_pos hb).symm.trans z
    cases z'
    subst hb
    exact ⟨ha, by rw [List.length_map]; exact hl, vs, _, rv, ha⟩
   ·have z' := (if_neg hb).symm.trans z
    cases z'
  ·by_cases hb : b = a
   ·exact hb
   ·exact absurd (if_neg hb) z
noncomputable def Bo (s : Stmt) (j : Nat) : Stmt := match s with
 | .ClassDef _ _ _ body _ _ _ _ _ _ _ => body.getD j (.Pass ⟨0, 0, 0, 0⟩)
 | _ => .Pass ⟨0, 0, 0, 0⟩
noncomputable def Ao (s : Stmt) : Arguments := match s with
 | .FunctionDef _ a _ _ _ _ _ _ _ _ => a
 | _ => { posonlyargs := [], args := [], vararg := none, kwonlyargs := [], kw_defaults := [], kwarg := none, defaults := [] }
noncomputable def Af (s : Stmt) : List Stmt := match s with
 | .FunctionDef _ _ b _ _ _ _ _ _ _ => b
 | _ => []
noncomputable def AE (s : Stmt) : Scope := match s with
 | .FunctionDef _ _ _ _ _ _ sc _ _ _ => sc
 | _ => { kind := .function, names := [], isGenerator := false, isCoroutine := false }
noncomputable abbrev CX0 : CXT := fun _ _ _ _ _ _ => False
noncomputable abbrev E0 : XK := fun _ _ _ => False
theorem At {X : Cx} : Ba CX0 X E0 := fun _ _ _ _ _ _ _ h => h.elim
structure Fun (K : PySem.W.Frag) (x qual : Str) (st : Stmt) (f : Addr) (fd : FuncData) : Prop where
 ex : ∃ (oc : Value) (od : Option Addr) (kV doc pm : Value) (an : Option Addr) (cdv ct : Value) (osl : Array (Option Value)),
  fd = PySem.W.fnOf x qual (Ao st) (Af st) (AE st) .none kV doc pm an cdv ct ∧ K.lookup f = some ⟨oc, od, .func fd, osl⟩ ∧ PySem.W.codeIn K cdv qual = true
 kp : PySem.W.keepIn K (.ref f) = true
section
variable {P : Program} {w : World} {K : PySem.W.Frag} {mg : Str → Option Value} {base : Heap}
theorem Fun.ok {x qual : Str} {st : Stmt} {f : Addr} {fd : FuncData} {N ps : List Str} {k : Nat} {sp : Sp} (F : Fun K x qual st f fd) (S : AM N ps (AE st)) (len : ∀ vs H Q E, sp vs H Q E → vs.length = ps.length)
  (hbody : ∀ (cdv : Value) (A : Around) (outer : List Env) (s : Shared) (H : Hp) (vs : List V) (Q : VK) (E : XK), A1 k (A.deeper (envOfC qual (AE st) s.heap.objs.size f cdv)) → sp vs H Q E →
   ∃ t, PSs (Ac CX0 P w K mg base N qual (AE st) f cdv A outer s H E).nox (Af st) t ∧ t { nx := fun _ H' => Q .non H', rt := Q } (start N vs) H) : Ad P w K mg base CX0 (k + 1) f fd ps sp := by
 obtain ⟨oc, od, kV, doc, pm, an, cdv, ct, osl, rfl, lk, hcd⟩ := F.ex
 refine JT lk hcd S len fun A outer s H vs Q E hr hsp => ?_
 obtain ⟨t, h, q⟩ := hbody cdv A outer s H vs Q E hr hsp
 exact ⟨t, h.nox, q⟩
theorem Fun.binds {x qual : Str} {st : Stmt} {f : Addr} {fd : FuncData} {ps : List Str} (F : Fun K x qual st f fd)
  (h : ∀ (kV doc pm : Value) (an : Option Addr) (cdv ct : Value) (us : List Value), us.length = ps.length → bindArgs (PySem.W.fnOf x qual (Ao st) (Af st) (AE st) .none kV doc pm an cdv ct) ⟨us, []⟩ = pure (ps.zip us)) : Binds K fd ps [] := by
 obtain ⟨oc, od, kV, doc, pm, an, cdv, ct, osl, rfl, lk, hcd⟩ := F.ex
 exact .all (h kV doc pm an cdv ct)
theorem Dt {x qual : Str} {st : Stmt} {f : Addr} {oc : Value} {od an : Option Addr} {osl : Array (Option Value)} {kV doc pm cdv ct : Value} (l : K.lookup f = some ⟨oc, od, .func (PySem.W.fnOf x qual (Ao st) (Af st) (AE st) .none kV doc pm an cdv ct), osl⟩)
  (c : PySem.W.codeIn K cdv qual = true) (k : PySem.W.keepIn K (.ref f) = true) : Fun K x qual st f (PySem.W.fnOf x qual (Ao st) (Af st) (AE st) .none kV doc pm an cdv ct) := ⟨⟨oc, od, kV, doc, pm, an, cdv, ct, osl, rfl, l, c⟩, k⟩
end
theorem hu_of {A : Around} {k : Nat} (hr : A1 k A) : A.units + 1 < cLine := Nat.lt_of_le_of_lt (Nat.add_le_add_left (by decide : 1 ≤ 64) _) hr.units
section
variable {X : Cx}
theorem pv (i : Nat) {x : Str} {pos : Pos} (hN : X.N[i]? = some x := by rfl) (hv : Vis X.env.scope x := by first | exact Or.inl rfl | exact Or.inr (Or.inl rfl) | exact Or.inr (Or.inr rfl)) (hd : (x == ("__debug__" : Str)) = false := by decide)
  (hcd : (x == ("__classdict__" : Str)) = false := by decide) : PE X (.Name x pos) (Dy i) := Oc hN hv hd hcd
end
noncomputable def AH (H H' : Hp) : Prop := ∀ b o, H b = some o → H' b = some o
theorem AH.refl (H : Hp) : AH H H := fun _ _ h => h
theorem AH.trans {H H1 H2 : Hp} (a : AH H H1) (b : AH H1 H2) : AH H H2 := fun c o h => b c o (a c o h)
theorem AH.free {H H' : Hp} (e : AH H H') {l : Addr} (h : H' l = Option.none) : H l = Option.none := by
 cases q : H l with
 | none => rfl
 | some o =>
  rw [e l o q] at h
  cases h
theorem AH.seq {K : PySem.W.Frag} {H H' : Hp} {a : Addr} {xs : List V} (e : AH H H') (h : SqL K H a xs) : SqL K H' a xs := by
 rcases h with (h | ⟨o, h⟩) | h
 ·exact .inl (.inl (e _ _ h))
 ·exact .inl (.inr ⟨o, e _ _ h⟩)
 ·exact .inr h
section
variable {X : Cx}
end
section
variable {κ : Type} [DecidableEq κ]
end
theorem Av : bootBuiltins "len" = some (.builtin "len") := by decide +kernel
theorem Aw : bootBuiltins "isinstance" = some (.builtin "isinstance") := by decide +kernel
theorem PX : bootBuiltins "max" = some (.builtin "max") := by decide +kernel
theorem OW : bootBuiltins "min" = some (.builtin "min") := by decide +kernel
theorem KC : bootBuiltins "int" = some (.type "int") := by decide +kernel
theorem Ky : bootBuiltins "bool" = some (.type "bool") := by decide +kernel
theorem Js : bootBuiltins "tuple" = some (.type "tuple") := by decide +kernel
theorem Ib : bootBuiltins "list" = some (.type "list") := by decide +kernel
theorem CN : bootBuiltins "str" = some (.type "str") := by decide +kernel
noncomputable def Sm (i : Int) : Prop := i.natAbs < 2 ^ 4000
theorem Sm.of {i : Int} {n : Nat} (h : i.natAbs ≤ n) (hn : n < 2 ^ 4000) : Sm i := Nat.lt_of_le_of_lt h hn
section
variable {X : Cx}
theorem BD : BF X (.builtin "isinstance") (fun xs H Q => ∃ x n t b, xs = [x, .ty n] ∧ Cd X.K H x t ∧ PySem.W.kitOne X.K t (.type n) = some b ∧ Q (.bl b) H) := by
 intro pins s σ H xs us Q I r h
 obtain ⟨x, n, t, b, rfl, ty, e, q⟩ := h
 obtain ⟨u, w', rfl, r1, r2⟩ := vals2 r
 cases (show w' = Value.type n from r2)
 exact JB I r1 ty e fun tk => ⟨.bl b, H, I.tok tk, rfl, q⟩
end
structure D (K : PySem.W.Frag) (mg : Str → Option Value) (x : Str) (st : Stmt) (ps : List Str) (f : Addr) (fd : FuncData) : Prop where
 F : Fun K x x st f fd
 m : mg x = some (.ref f)
 b : Binds K fd ps []
section
variable {X : Cx} {st : Stmt} {rest : List Stmt} {t u : TS}
theorem KT {t u : TS} {D : DC} {σ : St} {H : Hp} (h : ∀ M : St → Hp → Prop, (∀ σ' H', u D σ' H' → M σ' H') → t { D with nx := M } σ H) : HL t u D σ H := h _ fun _ _ z => z
end
theorem cxK {CX : CXT} {P : Program} {w : World} {K : PySem.W.Frag} {mg : Str → Option Value} {base : Heap} {N : List Str} {qual : Str} {scope : Scope} {f : Addr} {cd : Value} {A : Around} {outer : List Env} {s : Shared} {H : Hp} {E : XK} :
 (Ac CX P w K mg base N qual scope f cd A outer s H E).K = K := rfl
theorem EE : Int.natAbs 10 = 10 := rfl
theorem F2 : Int.natAbs 2 = 2 := rfl
theorem AZ {H : Hp} {p : PySem.Addr} {o : HO} (hp : H p = none) : AH H (upd H p o) := fun b u e => by
 rw [AF (AB e hp)]; exact e
theorem AH.tup {K : PySem.W.Frag} {H H' : Hp} {a : PySem.Addr} {xs : List V} (e : AH H H') (h : SqT K H a xs) : SqT K H' a xs := by
 rcases h with (h | ⟨o, h⟩) | h
 ·exact .inl (.inl (e _ _ h))
 ·exact .inl (.inr ⟨o, e _ _ h⟩)
 ·exact .inr h
section
variable {X : Cx} {es : List Expr} {t : TA} {pos : Pos}
noncomputable def Cw (t : TA) : TE := fun σ H Q => t σ H fun xs H1 => xs.length ≤ sizeLine ∧ ∀ p H', H1 p = none → AH H1 H' → H' p = some (.tup xs) → Q (.ref p) H'
noncomputable def Ct (t : TA) : TE := fun σ H Q => t σ H fun xs H1 => xs.length ≤ sizeLine ∧ ∀ p H', H1 p = none → AH H1 H' → H' p = some (.lst xs) → Q (.ref p) H'
theorem IU {x1} (h : PA X es t) : PE X (.Tuple es x1 pos) (Cw t) := by
 intro pins s σ H Q I hq
 refine wpAny_Tuple_spliced (thn (h pos pins s σ H _ I hq) fun us s1 ⟨xs, H1, I1, r, z, q⟩ => ⟨by rw [← r.length]; exact z, ?_⟩)
 have hf : H1 s1.heap.objs.size = none := I1.hok.fresh (Nat.le_refl _)
 refine ⟨.ref s1.heap.objs.size, upd H1 s1.heap.objs.size (.tup xs), I1.laid (t' := s1.toks) (fun b u e => Heap.get?_push_of_some _ e) (Nat.le_refl _) ?_, rfl, q _ _ hf (AZ hf) AI⟩
 exact ⟨z, us, r, ⟨_, Heap.get?_push_size _ rfl, rfl, _, rfl⟩⟩
theorem Ar (h : PA X es t) : PE X (.List es pos) (Ct t) := by
 intro pins s σ H Q I hq
 refine wpAny_List_spliced (thn (h pos pins s σ H _ I hq) fun us s1 ⟨xs, H1, I1, r, z, q⟩ => ⟨by rw [← r.length]; exact z, ?_⟩)
 have hf : H1 s1.heap.objs.size = none := I1.hok.fresh (Nat.le_refl _)
 refine ⟨.ref s1.heap.objs.size, upd H1 s1.heap.objs.size (.lst xs), I1.laid (t' := s1.toks) (fun b u e => Heap.get?_push_of_some _ e) (Nat.le_refl _) ?_, rfl, q _ _ hf (AZ hf) AI⟩
 exact ⟨z, us, 0, r, Heap.get?_push_size _ rfl⟩
end
theorem AH.get {H H' : Hp} (s : AH H H') {b : PySem.Addr} {o : HO} (h : H b = some o) : H' b = some o := s b o h
theorem DO {α : Sort _} {p q : α → Prop} (w : α) (h1 : p w) (h2 : q w) : ∃ x, p x ∧ q x := ⟨w, h1, h2⟩
theorem exOrL {α : Sort _} {p p' q : α → Prop} (w : α) (h1 : p w) (h2 : q w) : ∃ x, (p x ∨ p' x) ∧ q x := ⟨w, .inl h1, h2⟩
theorem exOrR {α : Sort _} {p p' q : α → Prop} (w : α) (h1 : p' w) (h2 : q w) : ∃ x, (p x ∨ p' x) ∧ q x := ⟨w, .inr h1, h2⟩
section
variable {X : Cx}
theorem OpR.weak {f : Value → Value → Sem Value} {r r' : R2} (h : OpR X f r) (m : ∀ x y H Q, r' x y H Q → r x y H Q) : OpR X f r' :=
 fun pins s σ H x y v u Q I rx ry q => h pins s σ H x y v u Q I rx ry (m x y H Q q)
theorem BF.weak {f : Value} {r r' : List V → Hp → VK → Prop} (h : BF X f r) (m : ∀ xs H Q, r' xs H Q → r xs H Q) : BF X f r' :=
 fun pins s σ H xs us Q I rx q => h pins s σ H xs us Q I rx (m xs H Q q)
noncomputable def C0 : R2 := fun x y H Q => ∃ l b, x = .ref l ∧ y = .ref b ∧ ∃ xs, H l = some (.lst xs) ∧ ∃ zs, H b = some (.lst zs) ∧ xs.length + zs.length ≤ sizeLine ∧ ∀ p H', H p = none → AH H H' → H' p = some (.lst (xs ++ zs)) → Q (.ref p) H'
theorem Ee : OpR X (binaryOp .Add) C0 := Mx.weak fun _ _ _ _ ⟨l, b, e1, e2, xs, h1, zs, h2, h3, q⟩ => ⟨l, b, xs, zs, e1, e2, h1, h2, h3, fun p hp => q p _ hp (AZ hp) AI⟩
noncomputable def BO (K : PySem.W.Frag) : List V → Hp → VK → Prop := fun xs H Q => ∃ p, xs = [.ref p] ∧ ∃ ys, SqL K H p ys ∧ ∀ l H', H l = none → AH H H' → H' l = some (.tup ys) → Q (.ref l) H'
noncomputable def A7 (K : PySem.W.Frag) : List V → Hp → VK → Prop := fun xs H Q => ∃ p, xs = [.ref p] ∧ ∃ ys, (SqL K H p ys ∨ SqT K H p ys) ∧ ∀ l H', H l = none → AH H H' → H' l = some (.lst ys) → Q (.ref l) H'
theorem Hw : BF X (.type "list") (A7 X.K) := Ge.weak fun _ _ _ ⟨p, e, ys, h, q⟩ => ⟨p, ys, e, h, fun l hl => q l _ hl (AZ hl) AI⟩
end
theorem Nr {c A B : Prop} [Decidable c] (hc : ¬ c) (h : B) : if c then A else B := by rw [if_neg hc]; exact h
theorem PV {c A B : Prop} [Decidable c] (hc : c) (h : A) : if c then A else B := by rw [if_pos hc]; exact h
theorem Mz {H H' : Hp} (h : AH H H') : True := trivial
section
variable {X : Cx}
end
theorem atL3 {x y z e : Int} (h0 : 0 ≤ e) (h1 : e < 3) : ∃ v : Int, atI [V.int x, V.int y, V.int z] e = some (V.int v) ∧ (v = x ∨ v = y ∨ v = z) := by
 rcases (by lia : e = 0 ∨ e = 1 ∨ e = 2) with rfl | rfl | rfl
 ·exact ⟨x, rfl, .inl rfl⟩
 ·exact ⟨y, rfl, .inr (.inl rfl)⟩
 ·exact ⟨z, rfl, .inr (.inr rfl)⟩
theorem BV : Cm .non .non = true := rfl
theorem BX {j : Int} : Cm .non (.int j) = true := rfl
theorem BN {i : Int} : Cm (.int i) .non = true := rfl
theorem BS {j : Bool} : Cm .non (.bl j) = true := rfl
theorem BW {i : Bool} : Cm (.bl i) .non = true := rfl
theorem BM {j : PySem.Str} : Cm .non (.str j) = true := rfl
theorem BR {i : PySem.Str} : Cm (.str i) .non = true := rfl
theorem BA {i : Int} {j : Int} : Cm (.int i) (.int j) = true := rfl
theorem BL {i : Bool} {j : Bool} : Cm (.bl i) (.bl j) = true := rfl
theorem BB {i : PySem.Str} {j : PySem.Str} : Cm (.str i) (.str j) = true := rfl
theorem BU {i : Int} {j : PySem.Str} : Cm (.int i) (.str j) = true := rfl
theorem BQ {i : PySem.Str} {j : Int} : Cm (.str i) (.int j) = true := rfl
theorem BZ {i : Bool} {j : PySem.Str} : Cm (.bl i) (.str j) = true := rfl
theorem BY {i : PySem.Str} {j : Bool} : Cm (.str i) (.bl j) = true := rfl
end L2
set_option maxHeartbeats 4000000
namespace L2
open PySem PySem.Spec PyProof.Rows
section
variable {prog : Program} {w : World} {A : Around} {R : Result → Shared → Prop} {s : Shared}
theorem EQ {elt target iter : Expr} {ifs : List Expr} {scope : Scope} {pos : Pos} {it acc : Value} {env : Env} (I : Nat → Shared → Prop) {N : Value → Shared → Prop} (hN : N = notedBy (model prog w) A env fun e s' => R (.error e) s')
  (turn : ∀ n s, I n s → wpAny (model prog w) A (pyNext it) (fun r s₁ => match r with
   | none => R (.ok .next) s₁
   | some v => wpAny (model prog w) A (letOwnedTupleGo target it v) (fun _ s₁' => wpAny (model prog w) A (assign target env v) (fun _ s₂ =>
     wpAny (model prog w) A (forIn ifs true fun c r => if r = true then do let ok ← isTrue c env (eval c env); pure (ForInStep.yield ok) else pure (ForInStep.yield r)) (fun ok s₃ =>
      if ok = true then wpAny (model prog w) A (eval elt env) (fun x s₄ => wpAny (model prog w) A (call (.builtin "list.append") [acc, x]) (fun _ s₅ => ∃ m, m < n ∧ I m s₅) N s₄) N s₃
      else ∃ m, m < n ∧ I m s₃) N s₂) N s₁') N s₁) N s)
  (n : Nat) (h : I n s) : codeAny (model prog w) A (.compLoop (.ListComp elt [⟨target, iter, ifs, 0⟩] scope pos) 0 it acc env) R s := by
 subst hN
 refine codeAny_loop rfl I (fun n s hI => ?_) n h
 show wpAny _ A ((compTurn (.ListComp elt [⟨target, iter, ifs, 0⟩] scope pos) 0 it acc env).onRaise (fun x => do noteFrame x env; theTreesLotGoes x)) _ _ s
 refine wpAny_noted ?_
 rw [compTurn_list]
 refine wpAny_bind (wpAny_standAt (wpAny_bind (wpAny_mono (turn n s hI) (fun r s₁ h₁ => ?_) fun _ _ h' => h')))
 cases r with
 | none => exact wpAny_pure h₁
 | some v =>
  refine wpAny_bind (wpAny_mono h₁ (fun _ s₁' h₁' => ?_) fun _ _ h' => h')
  refine wpAny_bind (wpAny_mono h₁' (fun _ s₂ h₂ => wpAny_bind (wpAny_mono h₂ (fun ok s₃ h₃ => ?_) fun _ _ h' => h')) fun _ _ h' => h')
  cases ok with
  | false => exact wpAny_pure ⟨rfl, h₃⟩
  | true =>
   exact wpAny_bind (wpAny_bind (wpAny_mono h₃ (fun x s₄ h₄ => wpAny_bind (wpAny_mono h₄ (fun _ s₅ h₅ => wpAny_pure (wpAny_pure ⟨rfl, h₅⟩)) fun _ _ h' => h')) fun _ _ h' => h'))
end
noncomputable def AS (X : Cx) (sc : Scope) (cl : List (Str × Addr)) (N : List Str) (C : Addr) (s : Shared) (H : Hp) (ex : List Addr) : Cx :=
 { X with N := N, s₀ := s, H₀ := H, env := compEnvC sc cl C X.env, outer := X.stack, stack := X.stack, ex := ex, fn := fun _ => false, pn := [], xe := fun _ _ => False }
noncomputable def AQ (X : Cx) (caps : List Str) : List (Str × Addr) := caps.map fun n => (n, (X.env.cells.lookup n).getD 0)
noncomputable def BE (σ : St) (ix : List Nat) : St := ix.map fun i => (σ[i]?).join
structure Ab (X : Cx) (sc : Scope) (x : Str) (caps : List Str) (ix : List Nat) : Prop where
 kind : sc.kind = .function
 nocell : ∀ y ∈ sc.names, y.2 ≠ .cell
 names : ∀ y ∈ sc.names, y.2 = .local → sc.names.lookup y.1 = some .local
 free : ∀ y ∈ sc.names, y.2 = .free → y.1 ∈ caps
 hx : sc.names.lookup x = some .local
 nd : (x :: caps).Nodup
 clos : closureFor sc X.env = pure (AQ X caps)
 cap : caps.map X.env.kindOf = caps.map fun _ => some NameKind.cell
 rl : (caps.map fun n => (relabel sc X.env).names.lookup n) = caps.map fun _ => some NameKind.cell
 slots : (ix.map fun i => X.N[i]?) = caps.map some
theorem Gd {α β : Type} {f g : α → β} {l : List α} (h : l.map f = l.map g) {a : α} (ha : a ∈ l) : f a = g a := by
 induction l with
 | nil => exact absurd ha (by simp)
 | cons b r ih =>
  rw [List.map_cons, List.map_cons, List.cons.injEq] at h
  rcases List.mem_cons.mp ha with rfl | ha
  ·exact h.1
  ·exact ih h.2 ha
theorem DR {X : Cx} : ∀ {caps : List Str} {n : Str} {c : Addr}, (AQ X caps).lookup n = some c → n ∈ caps ∧ c = (X.env.cells.lookup n).getD 0
 | [], _, _, h => by simp [AQ] at h
 | a :: r, n, c, h => by
  have h : List.lookup n ((a, (X.env.cells.lookup a).getD 0) :: AQ X r) = some c := h
  rw [List.lookup_cons] at h
  cases e : n == a with
  | true =>
   rw [e] at h
   have e' : n = a := by simpa using e
   subst e'
   exact ⟨List.mem_cons_self, (Option.some.inj h).symm⟩
  | false =>
   rw [e] at h
   obtain ⟨h1, h2⟩ := DR h
   exact ⟨List.mem_cons_of_mem _ h1, h2⟩
theorem Dv {X : Cx} : ∀ {caps : List Str} {n : Str}, n ∈ caps → ∃ c, (AQ X caps).lookup n = some c
 | [], _, h => absurd h (by simp)
 | a :: r, n, h => by
  show ∃ c, List.lookup n ((a, (X.env.cells.lookup a).getD 0) :: AQ X r) = some c
  rw [List.lookup_cons]
  cases e : n == a with
  | true => exact ⟨_, rfl⟩
  | false =>
   have ne : n ≠ a := by simpa using e
   exact Dv ((List.mem_cons.mp h).resolve_left ne)
section
variable {X : Cx} {pins : List (Addr × Obj)} {σ : St} {H : Hp} {s : Shared} {sc : Scope} {x : Str} {caps : List Str} {ix : List Nat}
theorem Ab.cell {n : Str} {c : Addr} (S : Ab X sc x caps ix) (ok : X.Ok) (h : (AQ X caps).lookup n = some c) : n ∈ caps ∧ X.env.cells.lookup n = some c := by
 obtain ⟨h1, h2⟩ := DR h
 obtain ⟨c', e⟩ := ok.has n (.inl (Gd S.cap h1))
 refine ⟨h1, ?_⟩
 rw [h2, e]; rfl
theorem Ab.isCap (S : Ab X sc x caps ix) {y : Str} (h : (relabel sc X.env).names.lookup y = some .cell ∨ (relabel sc X.env).names.lookup y = some .free) : y ∈ caps := by
 have key : ∀ k, (relabel sc X.env).names.lookup y = some k → k = .cell ∨ k = .free → y ∈ caps := fun k hk hk2 => by
  have hm := PySem.mem_of_lookup hk
  obtain ⟨⟨n, k'⟩, hn, e⟩ := List.mem_map.mp (show (y, k) ∈ sc.names.map _ from hm)
  dsimp only at e
  split at e
  ·rename_i hc
   have hk' : k' = .free := by
    simp only [Bool.and_eq_true, beq_iff_eq] at hc
    exact hc.1.1
   injection e with e1 e2
   subst e1
   exact S.free _ hn hk'
  ·injection e with e1 e2
   subst e1 e2
   rcases hk2 with rfl | rfl
   ·exact absurd rfl (S.nocell _ hn)
   ·exact S.free _ hn rfl
 rcases h with h | h
 ·exact key _ h (.inl rfl)
 ·exact key _ h (.inr rfl)
theorem Ab.ok (S : Ab X sc x caps ix) (I : Inv X pins σ H s) {fp : List Addr} {C : Addr} (hC : s.heap.objs.size ≤ C) (hf : ∀ b ∈ fp, DT X pins H b) (hb : ∀ b ∈ fp, b < s.heap.objs.size) :
  (AS X sc (AQ X caps) (x :: caps) C s H fp).Ok where
 mod := I.ok.mod
 kind := S.kind
 glob := I.ok.glob
 blt := I.ok.blt
 above := hC
 inj := fun y z c h1 h2 => I.ok.inj y z c (S.cell I.ok h1).2 (S.cell I.ok h2).2
 has := fun y hy => Dv (S.isCap hy)
 cab := fun _ _ h => absurd h (by intro z; cases z)
 hd := I.ok.hd
 frames := I.ok.frames
 stk := .inl rfl
 exf := fun b hbf => ⟨Nat.ne_of_lt (Nat.lt_of_lt_of_le (hb b hbf) hC), fun y c h => (hf b hbf).2.2.2.2.1 y c (S.cell I.ok h).2⟩
 bs := I.bs
 bsz := Nat.le_trans I.ok.bsz I.sz
 noex := fun b o e hbf => by
  rcases (hf b hbf).2.2.2.1 with z | z
  ·exact I.ok.noex b o e z
  ·exact absurd (Nat.lt_of_lt_of_le (Heap.lt_size (I.ok.bs b o e).1) z) (Nat.lt_irrefl _)
 exfs := fun b hbf hm => by
  rcases List.mem_cons.mp (I.stkSub b hm) with z | z
  ·exact (hf b hbf).2.1 z
  ·exact (hf b hbf).2.2.1 z
 funs := I.stack
 frf := I.stkFree
theorem KD (S : Ab X sc x caps ix) : (BE σ ix).length = caps.length := by
 have := congrArg List.length S.slots
 simpa [BE] using this
theorem IA : ∀ {ix : List Nat} {caps : List Str} {N : List Str} {k : Nat} {n : Str}, (ix.map fun i => N[i]?) = caps.map some → caps[k]? = some n → ∃ i, ix[k]? = some i ∧ N[i]? = some n
 | [], [], _, _, _, _, h => by simp at h
 | [], _ :: _, _, _, _, h, _ => by simp at h
 | _ :: _, [], _, _, _, h, _ => by simp at h
 | i :: ix, a :: caps, N, 0, n, h, e => by
  rw [List.map_cons, List.map_cons, List.cons.injEq] at h
  simp at e; subst e
  exact ⟨i, rfl, h.1⟩
 | i :: ix, a :: caps, N, k + 1, n, h, e => by
  rw [List.map_cons, List.map_cons, List.cons.injEq] at h
  obtain ⟨j, h1, h2⟩ := IA (k := k) h.2 (by simpa using e)
  exact ⟨j, by simpa using h1, h2⟩
theorem Ab.start (S : Ab X sc x caps ix) (I : Inv X pins σ H s) {fp : List Addr} {C D : Addr} {h' : Heap} {m : Str → Option Value} {tk : Nat} (hf : ∀ b ∈ fp, DT X pins H b) (hb : ∀ b ∈ fp, b < s.heap.objs.size)
  (hD : s.heap.objs.size ≤ D) (hC : s.heap.objs.size ≤ C) (hDC : D ≠ C) (k : ∀ b o, s.heap.get? b = some o → h'.get? b = some o) (hd : h'.get? D = some { cls := .type "list", data := .seq #[] 0 }) (hn : h'.Ns C m) :
  Inv (AS X sc (AQ X caps) (x :: caps) C s H fp) [] (none :: BE σ ix) (upd H D (.lst [])) { s with heap := h', toks := tk } where
 ok := S.ok I hC hf hb
 os := rfl
 bare := I.bare
 base := Un.laid k hD (I.hok.fresh hD)
 loc := by
  refine ⟨m, hn, fun i y v h1 h2 _ => ?_⟩
  cases i with
  | zero => simp at h2
  | succ i =>
   have h1 : caps[i]? = some y := by simpa [AS] using h1
   have h2 : (BE σ ix)[i]? = some (some v) := by simpa using h2
   obtain ⟨j, e1, e2⟩ := IA S.slots h1
   have h3 : σ[j]? = some (some v) := by
    unfold BE at h2
    rw [List.getElem?_map, e1] at h2
    have h2 : (σ[j]?).join = some v := by simpa using h2
    cases q : σ[j]? with
    | none => rw [q] at h2; cases h2
    | some o => rw [q] at h2; cases o with
     | none => cases h2
     | some u => cases h2; rfl
   have hy : y ∈ caps := List.mem_of_getElem? h1
   obtain ⟨m0, hn0, hl0⟩ := I.loc
   obtain ⟨u, r, l⟩ := hl0 j y v e2 h3 (.inr (.inl (Gd S.cap hy)))
   refine ⟨u, r, .inr ⟨.inl (Gd S.rl hy), ?_⟩⟩
   rcases l with ⟨z, _⟩ | ⟨_, c, hc, hcell⟩
   ·have z2 : X.env.kindOf y = some .cell := Gd S.cap hy
    rw [z] at z2; cases z2
   ·obtain ⟨c', hc'⟩ := Dv (X := X) hy
    have := (S.cell I.ok hc').2
    rw [hc] at this; cases this
    obtain ⟨o, ho, hdt⟩ := hcell
    exact ⟨c, hc', o, k _ _ ho, hdt⟩
 cell := fun y c h => by
  obtain ⟨v, o, ho, hdt⟩ := I.cell y c (S.cell I.ok h).2
  exact ⟨v, o, k _ _ ho, hdt⟩
 free := by
  show upd H D (.lst []) C = none
  rw [AF (Ne.symm hDC)]; exact I.hok.fresh hC
 freeC := fun y c h => by
  have h2 := (S.cell I.ok h).2
  obtain ⟨v, o, ho, _⟩ := I.cell y c h2
  rw [AF (Nat.ne_of_lt (Nat.lt_of_lt_of_le (Heap.lt_size ho) hD))]
  exact I.freeC y c h2
 pin := fun p hp => absurd (show p ∈ ([] : List (Addr × Obj)) from hp) (by simp)
 hok := I.hok.laid k hD ⟨Nat.zero_le _, [], 0, .nil, hd⟩
 len := by
  show (none :: BE σ ix).length = (x :: caps).length
  rw [List.length_cons, List.length_cons, KD S]
theorem Ab.back (S : Ab X sc x caps ix) (I : Inv X pins σ H s) {fp : List Addr} {C : Addr} {ps : List (Addr × Obj)} {σ' : St} {H' : Hp} {s' : Shared} {h'' : Heap} (hf : ∀ b ∈ fp, DT X pins H b) (hC : s.heap.objs.size ≤ C)
  (I' : Inv (AS X sc (AQ X caps) (x :: caps) C s H fp) ps σ' H' s') (hs : Heap.SameBut C s'.heap h'') : Inv X pins σ H' { s' with heap := h'' } := by
 have J : Inv X pins σ H' s' := I.call' (ch := fp) I'.os I'.base I'.hok I'.bare fun b hb => ⟨(hf b hb).2.2.2.1, (hf b hb).2.1, (hf b hb).2.2.2.2.1, (hf b hb).2.2.2.2.2⟩
 refine J.turned (t' := s'.toks) (it := C) (fun b o hb e => (hs.2 b hb).trans e) I'.free ?_ (.inr (Nat.le_trans I.sz hC)) (fun y c h z => ?_) fun p hp z => ?_
 ·exact Nat.ne_of_gt (Nat.lt_of_lt_of_le I.lt hC)
 ·obtain ⟨v, o, ho, _⟩ := I.cell y c h
  exact absurd (Nat.lt_of_lt_of_le (Heap.lt_size ho) (z ▸ hC)) (Nat.lt_irrefl _)
 ·obtain ⟨e, _⟩ := I.pin p hp
  exact absurd (Nat.lt_of_lt_of_le (Heap.lt_size e) (z ▸ hC)) (Nat.lt_irrefl _)
end
noncomputable def PTs (X : Cx) (ifs : List Expr) (tc : TT) : Prop :=
 ∀ (pins : List (Addr × Obj)) (s : Shared) (σ : St) (H : Hp) (Q : Bool → Hp → Prop), Inv X pins σ H s → tc σ H Q →
  wpAny (model X.prog X.w) X.A (forIn ifs true fun c r => if r = true then do let ok ← isTrue c X.env (eval c X.env); pure (ForInStep.yield ok) else pure (ForInStep.yield r)) (TP X pins σ Q) X.xe s
noncomputable def Bw : TT := fun _ H Q => Q true H
theorem Ch {X : Cx} : PTs X [] Bw := fun _ _ _ H _ I h => wpAny_tests_nil ⟨H, I, h⟩
theorem LF {X : Cx} {c : Expr} {t : TT} (h : PT X c t) : PTs X [c] t := fun pins s σ H Q I q => wpAny_tests_one (h pins s σ H Q I q)
noncomputable def B0 (te : TE) (tc : TT) (caps : St) (J : It) (D : Addr) (H1 : Hp) (Q : Hp → Prop) : Prop :=
 ∃ W : Nat → Nat → List V → Hp → Prop, (∃ m, W 0 m [] (upd H1 D (.lst []))) ∧ ∀ i m ys H, W i m ys H →
  (J.stop i H ∧ Q H) ∨ (J.go i H ∧ ∀ v H', J.yld i H v H' → tc (some v :: caps) H' fun b H2 =>
   if b = true then te (some v :: caps) H2 fun y H3 => H3 D = some (.lst ys) ∧ ys.length < sizeLine ∧ ∃ m', m' < m ∧ W (i + 1) m' (ys ++ [y]) (upd H3 D (.lst (ys ++ [y])))
   else ∃ m', m' < m ∧ W (i + 1) m' ys H2)
noncomputable def CL (wi : TI) (te : TE) (tc : TT) (ix : List Nat) : TE := fun σ H Q => wi σ H fun J H1 => ∀ D, H1 D = none → B0 te tc (BE σ ix) J D H1 fun H' => Q (.ref D) H'
theorem Ag {M : Model} {A : Around} {α : Type} {t : Sem α} {Q : α → Shared → Prop} {E : Value → Shared → Prop} {s : Shared} (h : wpAny M A t Q (fun _ _ => False) s) : wpAny M A t Q E s := wpAny_mono h (fun _ _ q => q) fun _ _ z => z.elim
section
variable {X : Cx} {pins : List (Addr × Obj)} {σ : St} {H : Hp} {s : Shared} {sc : Scope} {x : Str} {caps : List Str} {ix : List Nat}
theorem FG {elt iter : Expr} {px pos : Pos} {ifs : List Expr} {te : TE} {tc : TT} {J : It} {fp : List Addr} {it : Addr} {tn : Nat → Heap → Prop} {QH : Addr → Hp → Prop} {RR : Value → Addr → Result → Shared → Prop} {E : Value → Shared → Prop}
  (hc : X.calm = true) (S : Ab X sc x caps ix) (he : ∀ C s H ex, PE (AS X sc (AQ X caps) (x :: caps) C s H ex) elt te) (ht : ∀ C s H ex, PTs (AS X sc (AQ X caps) (x :: caps) C s H ex) ifs tc)
  (I : Inv X pins σ H s) (T : Hi X.prog X.w X.K (.Name x px) J fp it tn) (st : tn 0 s.heap) (hf : ∀ b ∈ fp, DT X pins H b) (h : ∀ D, H D = none → B0 te tc (BE σ ix) J D H (QH D))
  (hRR : ∀ D C (ps : List (Addr × Obj)) σ' H' s', s.heap.objs.size ≤ C → Inv (AS X sc (AQ X caps) (x :: caps) C s H fp) ps σ' H' s' → QH D H' → RR (.ref D) C (.ok .next) s') :
  wpAny (model X.prog X.w) X.A (newList []) (fun acc s₃ => wpAny (model X.prog X.w) X.A (newFunctionEnv sc X.env.globals (AQ X caps) [] X.env.qual none .none (some X.env)) (fun cenv s₄ =>
   codeAny (model X.prog X.w) X.A (.compStart (.ListComp elt [⟨.Name x px, iter, ifs, 0⟩] sc pos) 0 (.ref it) acc { cenv with scope := relabel sc X.env }) (RR acc cenv.locals) s₄) E s₃) E s := by
 refine wpAny_newObj_type (wpAny_newFunctionEnv S.nocell (by intro y hy; simp at hy) (fun h₁ hns₁ hsb₁ => ?_) S.kind)
 dsimp only at hns₁ hsb₁ ⊢
 generalize hH2 : s.heap.push { cls := .type "list", dict := none, data := .seq ([] : List Value).toArray } = H2 at hns₁ hsb₁ ⊢
 have hC : H2.objs.size = s.heap.objs.size + 1 := by rw [← hH2, Heap.size_push]
 have hDC : s.heap.objs.size ≠ H2.objs.size := by rw [hC]; exact Nat.ne_of_lt (Nat.lt_succ_self _)
 have hCle : s.heap.objs.size ≤ H2.objs.size := by rw [hC]; exact Nat.le_succ _
 have below : ∀ b, b < s.heap.objs.size → b ≠ H2.objs.size := fun b hb => by rw [hC]; exact Nat.ne_of_lt (Nat.lt_succ_of_lt hb)
 have old : ∀ b o, s.heap.get? b = some o → h₁.get? b = some o := fun b o e => hsb₁.extBut b o (below b (Heap.lt_size e)) (Heap.get?_push_of_some _ (hH2 ▸ Heap.get?_push_of_some _ e))
 have hacc : h₁.get? s.heap.objs.size = some { cls := .type "list", data := .seq #[] 0 } := hsb₁.extBut _ _ hDC (Heap.get?_push_of_some _ (hH2 ▸ Heap.get?_push_size _ rfl))
 have hb : ∀ b ∈ fp, b < s.heap.objs.size := fun b hbf => by obtain ⟨o, e, _⟩ := T.obj _ _ st b hbf; exact Heap.lt_size e
 have I1 := S.start (tk := s.toks + ([] : List (Str × Value)).length) I hf hb (Nat.le_refl _) hCle hDC old hacc hns₁
 obtain ⟨W, ⟨m0, w0⟩, turn⟩ := h _ (I.hok.fresh (Nat.le_refl _))
 have stat : ∀ {H' : Hp}, (∀ b ∈ fp, H' b = none) → ∀ b ∈ fp, DT (AS X sc (AQ X caps) (x :: caps) H2.objs.size s H fp) [] H' b := fun {H'} hn b hbf =>
  ⟨hn b hbf, (I1.ok.exf b hbf).1, I1.ok.exfs b hbf, .inl hbf, (I1.ok.exf b hbf).2, fun p hp => absurd (show p ∈ ([] : List (Addr × Obj)) from hp) (by simp)⟩
 have st1 : tn 0 h₁ := T.keep _ _ _ st fun b hbf o e => old b o e
 have fr1 : ∀ b ∈ fp, upd H s.heap.objs.size (.lst []) b = none := fun b hbf => by
  rw [AF (Nat.ne_of_lt (hb b hbf))]; exact (hf b hbf).1
 have loop : ∀ s₃ : Shared, s₃ = { s with heap := h₁, toks := s.toks + ([] : List (Str × Value)).length } →
   codeAny (model X.prog X.w) X.A (.compLoop (.ListComp elt [⟨.Name x px, iter, ifs, 0⟩] sc pos) 0 (.ref it) (.ref s.heap.objs.size) (compEnvC sc (AQ X caps) H2.objs.size X.env))
    (RR (.ref s.heap.objs.size) H2.objs.size) s₃ := by
  rintro s₃ rfl
  refine EQ (fun n s' => ∃ i ys H' ov, Inv (AS X sc (AQ X caps) (x :: caps) H2.objs.size s H fp) [] (ov :: BE σ ix) H' s' ∧ tn i s'.heap ∧ (∀ b ∈ fp, H' b = none) ∧ W i n ys H') rfl ?_ m0 ⟨0, [], _, none, I1, st1, fr1, w0⟩
  rintro n s3 ⟨i, ys, H3, ov, I3, st3, fr3, w3⟩
  rcases turn i n ys H3 w3 with ⟨stop, q⟩ | ⟨go, step⟩
  ·refine Ag (thn (T.done (AS X sc (AQ X caps) (x :: caps) H2.objs.size s H fp) rfl rfl rfl hc i [] s3 _ H3 _ I3 (stat fr3) st3 stop) fun r s4 zq => ?_)
   obtain ⟨hr, I4⟩ := zq
   subst hr
   exact hRR _ _ _ _ _ _ hCle I4 q
  ·refine Ag (thn (T.item (AS X sc (AQ X caps) (x :: caps) H2.objs.size s H fp) rfl rfl rfl hc i [] s3 _ H3 _ I3 (stat fr3) st3 go) fun r s4 zq => ?_)
   obtain ⟨u, hr, h4⟩ := zq
   subst hr
   refine Ag (thn h4 fun _ s5 zq => ?_)
   obtain ⟨v, H5, I5, r5, y5, st5, fr5⟩ := zq
   have I5' := I5.pinned (stat fr5) (T.obj _ _ st5)
   have hg : PG (AS X sc (AQ X caps) (x :: caps) H2.objs.size s H fp) (.Name x px) (Bh 0) := GY (i := 0) S.nd rfl (.inl (lookup_relabel_local S.hx)) (.inr (lookup_relabel_local S.hx))
   have again : ∀ {s7 : Shared} {H7 : Hp} {ys' : List V}, Inv (AS X sc (AQ X caps) (x :: caps) H2.objs.size s H fp) ([] ++ DA fp s5.heap) (some v :: BE σ ix) H7 s7 → (∃ m', m' < n ∧ W (i + 1) m' ys' H7) →
     ∃ m, m < n ∧ ∃ i ys H' ov, Inv (AS X sc (AQ X caps) (x :: caps) H2.objs.size s H fp) [] (ov :: BE σ ix) H' s7 ∧ tn i s7.heap ∧ (∀ b ∈ fp, H' b = none) ∧ W i m ys H' := fun {s7 H7 ys'} I7 ⟨m', hm, w7⟩ => by
    refine ⟨m', hm, i + 1, ys', H7, some v, I7.unpinned, T.keep _ _ _ st5 fun b hb o e => (I7.pin (b, o) (List.mem_append_right _ (List.mem_append_right _ (Az hb e)))).1, fun b hb => ?_, w7⟩
    obtain ⟨o, e, d⟩ := T.obj _ _ st5 b hb
    exact (I7.pin (b, o) (List.mem_append_right _ (List.mem_append_right _ (Az hb e)))).2.1
   refine Ag (thn (hg _ s5 _ H5 v u (fun σ' H' => σ' = some v :: BE σ ix ∧ H' = H5) I5' r5 ⟨rfl, rfl⟩) fun _ s6 zq => ?_)
   obtain ⟨σ6, H6, I6, e6, e6'⟩ := zq
   subst e6 e6'
   refine Ag (thn (ht _ _ _ _ _ s6 _ H6 _ I6 (step v H6 y5)) fun ok s7 zq => ?_)
   obtain ⟨H7, I7, q7⟩ := zq
   cases ok with
   | false => exact again I7 (by simpa using q7)
   | true =>
    rw [if_pos rfl] at q7
    rw [if_pos rfl]
    refine Ag (thn (he _ _ _ _ _ s7 _ H7 _ I7 q7) fun yv s8 zq => ?_)
    obtain ⟨y, H8, I8, r8, hD8, hz8, q8⟩ := zq
    refine Ag (thn (Dz _ s8 _ H8 (.ref s.heap.objs.size) [y] _ [yv] (fun _ H9 => H9 = upd H8 s.heap.objs.size (.lst (ys ++ [y]))) I8 rfl (.cons r8 .nil) ⟨_, _, _, rfl, rfl, hD8, hz8, rfl⟩) fun _ s9 zq => ?_)
    obtain ⟨_, H9, I9, _, e9⟩ := zq
    subst e9
    exact again I9 q8
 exact codeAny_compStart_list (loop _ rfl) (T.self _ 0 _ _ _ st1 (loop _ rfl))
theorem LV (I : Inv X pins σ H s) {C : Addr} (hC : s.heap.objs.size ≤ C) {σ2 : St} {H' : Hp} {s'' : Shared} {h'' : Heap} (J : Inv X pins σ2 H' s'') (hn : H' C = none) (hs : Heap.SameBut C s''.heap h'') : Inv X pins σ2 H' { s'' with heap := h'' } := by
 refine J.turned (t' := s''.toks) (it := C) (fun b o hb e => (hs.2 b hb).trans e) hn ?_ (.inr (Nat.le_trans I.sz hC)) (fun y c h z => ?_) fun p hp z => ?_
 ·exact Nat.ne_of_gt (Nat.lt_of_lt_of_le I.lt hC)
 ·obtain ⟨v, o, ho, _⟩ := I.cell y c h
  exact absurd (Nat.lt_of_lt_of_le (Heap.lt_size ho) (z ▸ hC)) (Nat.lt_irrefl _)
 ·obtain ⟨e, _⟩ := I.pin p hp
  exact absurd (Nat.lt_of_lt_of_le (Heap.lt_size e) (z ▸ hC)) (Nat.lt_irrefl _)
theorem Da {elt iter : Expr} {px pos : Pos} {ifs : List Expr} {wi : TI} {te : TE} {tc : TT} (hc : X.calm = true) (S : Ab X sc x caps ix) (hi : PI X (.Name x px) iter wi)
  (he : ∀ C s H ex, PE (AS X sc (AQ X caps) (x :: caps) C s H ex) elt te) (ht : ∀ C s H ex, PTs (AS X sc (AQ X caps) (x :: caps) C s H ex) ifs tc)
  (hs : ∀ x, foldedSetIterable iter X.env x = pure x := by intro _; rfl) : PE X (.ListComp elt [⟨.Name x px, iter, ifs, 0⟩] sc pos) (CL wi te tc ix) := by
 intro pins s σ H Q I h
 rw [eval_ListComp]
 refine wpAny_comprehension_free (use := none) rfl hs S.clos S.kind S.names (thn (hi pins s σ H _ I h) fun v s1 h1 => thn h1 fun itv s2 h2 => ?_)
 obtain ⟨it, fp, tn, J, H2, e, I2, T, st2, f2, q⟩ := h2
 subst e
 refine FG (RR := fun acc C => compPost (model X.prog X.w) X.A X.xe none (EP X pins σ Q) acc C) (QH := fun D H' => Q (.ref D) H') hc S he ht I2 T st2 f2 q ?_
 intro D C ps σ' H' s' hC I' hq
 obtain ⟨m, hn, _⟩ := I'.loc
 exact ⟨m, hn, fun h'' hs => ⟨.ref D, H', S.back I2 f2 hC I' hs, rfl, hq⟩⟩
theorem Hc {i : Nat} {y : Str} {py spos : Pos} {elt iter : Expr} {px pos : Pos} {ifs : List Expr} {wi : TI} {te : TE} {tc : TT} (hc : X.calm = true) (nd : X.N.Nodup) (hy : X.N[i]? = some y) (hl : Loc X.env.scope y) (S : Ab X sc x caps ix) (hi : PI X (.Name x px) iter wi)
  (he : ∀ C s H ex, PE (AS X sc (AQ X caps) (x :: caps) C s H ex) elt te) (ht : ∀ C s H ex, PTs (AS X sc (AQ X caps) (x :: caps) C s H ex) ifs tc)
  (hsw : swapsWith (.ListComp elt [⟨.Name x px, iter, ifs, 0⟩] sc pos) (some (.Name y py)) spos.line X.env = pure true := by rfl)
  (hs : ∀ x, foldedSetIterable iter X.env x = pure x := by intro _; rfl) (hf : X.fn y = true ∨ X.env.scope.names.lookup y = some .local := by first | exact .inl rfl | exact .inr rfl | assumption) :
  PS X (.Assign [.Name y py] (.ListComp elt [⟨.Name x px, iter, ifs, 0⟩] sc pos) spos) (GJ (CL wi te tc ix) (Bh i)) := by
 intro pins s σ H D I h
 rw [exec_Assign_Name_used _ _ _ _ hsw]
 refine wpAny_bind (wpAny_standAt (wpAny_bind ?_))
 show wpAny _ X.A (do let _ ← comprehension (.ListComp elt [⟨.Name x px, iter, ifs, 0⟩] sc pos) sc X.env _ (newList []) false (eval iter X.env) (some (assign (.Name y py) X.env))) _ _ s
 refine wpAny_bind (wpAny_mono (wpAny_comprehension_free (use := some (assign (.Name y py) X.env)) (Q := fun _ s' => SP X pins D .next s') rfl hs S.clos S.kind S.names
  (thn (hi pins s σ H _ I h) fun v s1 h1 => thn h1 fun itv s2 h2 => ?_)) (fun _ s' hq => wpAny_pure (wpAny_pure hq)) fun _ _ e => e)
 obtain ⟨it, fp, tn, J, H2, e, I2, T, st2, f2, q⟩ := h2
 subst e
 refine FG (RR := fun acc C => compPost (model X.prog X.w) X.A X.xe (some (assign (.Name y py) X.env)) (fun _ s' => SP X pins D .next s') acc C) (QH := fun L H' => D.nx (σ.set i (some (.ref L))) H') hc S he ht I2 T st2 f2 q ?_
 intro L C ps σ' H' s' hC I' hq
 show wpAny _ X.A (assign (.Name y py) X.env (.ref L)) _ _ s'
 have J := S.back I2 f2 hC I' (Heap.SameBut.refl ..)
 refine wpAny_assign_Name (Fi (v := .ref L) (u := .ref L) J nd hy hl rfl (fun s'' I'' ⟨a, hsb, ha⟩ => ?_) hf)
 obtain ⟨m, hn, _⟩ := I'.loc
 have haC : C ≠ a := by
  rcases ha with z | z
  ·rw [z]; exact Nat.ne_of_gt (Nat.lt_of_lt_of_le I2.lt hC)
  ·obtain ⟨v, o, ho, _⟩ := I2.cell y a z
   exact Nat.ne_of_gt (Nat.lt_of_lt_of_le (Heap.lt_size ho) hC)
 exact ⟨m, hn.sameBut hsb haC, fun h'' hs'' => ⟨_, H', LV I2 hC I'' I'.free hs'', hq⟩⟩
end
noncomputable def FJ (n i : Nat) (ys : List V) (D : Addr) (Pv : Nat → List V → Hp → Prop) (y : V) (H3 : Hp) : Prop :=
 H3 D = some (.lst ys) ∧ ys.length < sizeLine ∧ ∃ m', m' < n - i ∧ m' = n - (i + 1) ∧ i + 1 ≤ n ∧ (ys ++ [y]).length = i + 1 ∧ Pv (i + 1) (ys ++ [y]) (upd H3 D (.lst (ys ++ [y])))
theorem FJ.of {n i : Nat} {ys : List V} {D : Addr} {Pv : Nat → List V → Hp → Prop} {y : V} {H3 : Hp} (hn : n ≤ sizeLine) (hi : i < n) (hl : ys.length = i) (h1 : H3 D = some (.lst ys)) (h2 : Pv (i + 1) (ys ++ [y]) (upd H3 D (.lst (ys ++ [y])))) : FJ n i ys D Pv y H3 :=
 ⟨h1, by lia, _, by lia, rfl, hi, by rw [List.length_append, hl]; rfl, h2⟩
theorem Fp {K : PySem.W.Frag} {a : Addr} {xs : List V} {te : TE} {caps : St} {D : Addr} {H1 : Hp} {Q : Hp → Prop} (Pv : Nat → List V → Hp → Prop) (h0 : Pv 0 [] (upd H1 D (.lst []))) (hl : ∀ i ys H, i ≤ xs.length → Pv i ys H → SqL K H a xs)
  (hs : ∀ i x ys H, xs[i]? = some x → ys.length = i → Pv i ys H → te (some x :: caps) H (FJ xs.length i ys D Pv))
  (hd : ∀ ys H, ys.length = xs.length → Pv xs.length ys H → Q H) : B0 te Bw caps (Itl K a) D H1 Q := by
 refine ⟨fun i m ys H => m = xs.length - i ∧ i ≤ xs.length ∧ ys.length = i ∧ Pv i ys H, ⟨xs.length, rfl, Nat.zero_le _, rfl, h0⟩, ?_⟩
 rintro i m ys H ⟨rfl, hi, hy, p⟩
 have q := hl i ys H hi p
 by_cases hlt : i < xs.length
 ·refine .inr ⟨⟨xs, xs[i], q, by simp [hlt]⟩, fun v H' y => ?_⟩
  obtain ⟨e, y⟩ := y
  subst e
  unfold Bw
  dsimp only
  rw [if_pos rfl]
  exact hs i v ys _ (y xs q) hy p
 ·have e : i = xs.length := by lia
  subst e
  exact .inl ⟨⟨xs, q, by simp⟩, hd ys H hy p⟩
theorem B4 {K : PySem.W.Frag} {a : Addr} {xs : List V} {te : TE} {tc : TT} {caps : St} {D : Addr} {H1 : Hp} {Q : Hp → Prop} (Pv : Nat → List V → Hp → Prop) (h0 : Pv 0 [] (upd H1 D (.lst []))) (hl : ∀ i ys H, i ≤ xs.length → Pv i ys H → SqL K H a xs)
  (hs : ∀ i x ys H, xs[i]? = some x → Pv i ys H → tc (some x :: caps) H fun b H2 =>
   if b = true then te (some x :: caps) H2 fun y H3 => H3 D = some (.lst ys) ∧ ys.length < sizeLine ∧ ∃ m', m' < xs.length - i ∧ m' = xs.length - (i + 1) ∧ i + 1 ≤ xs.length ∧ Pv (i + 1) (ys ++ [y]) (upd H3 D (.lst (ys ++ [y])))
   else ∃ m', m' < xs.length - i ∧ m' = xs.length - (i + 1) ∧ i + 1 ≤ xs.length ∧ Pv (i + 1) ys H2)
  (hd : ∀ ys H, Pv xs.length ys H → Q H) : B0 te tc caps (Itl K a) D H1 Q := by
 refine ⟨fun i m ys H => m = xs.length - i ∧ i ≤ xs.length ∧ Pv i ys H, ⟨xs.length, rfl, Nat.zero_le _, h0⟩, ?_⟩
 rintro i m ys H ⟨rfl, hi, p⟩
 have q := hl i ys H hi p
 by_cases hlt : i < xs.length
 ·refine .inr ⟨⟨xs, xs[i], q, by simp [hlt]⟩, fun v H' y => ?_⟩
  obtain ⟨e, y⟩ := y
  subst e
  exact hs i v ys _ (y xs q) p
 ·have e : i = xs.length := by lia
  subst e
  exact .inl ⟨⟨xs, q, by simp⟩, hd ys H p⟩
theorem AH.updFresh {H H3 : Hp} {D : Addr} {o : HO} (s : AH H H3) (hD : H D = none) : AH H (L2.upd H3 D o) := fun b u e => by
 rw [AF (AB e hD)]; exact s b u e
theorem FL {K : PySem.W.Frag} {a : Addr} {xs : List V} {te : TE} {caps : St} {D : Addr} {H1 : Hp} {Q : Hp → Prop} (hz : xs.length ≤ sizeLine) (hD : H1 D = none) (hl : SqL K H1 a xs) (f : V → V)
  (hs : ∀ x H (R : VK), x ∈ xs → AH H1 H → R (f x) H → te (some x :: caps) H R)
  (hd : ∀ H, AH H1 H → H D = some (.lst (xs.map f)) → Q H) : B0 te Bw caps (Itl K a) D H1 Q := by
 refine Fp (xs := xs) (fun i ys H => AH H1 H ∧ H D = some (.lst ys) ∧ ys = (xs.take i).map f) ⟨AZ hD, AI, rfl⟩ (fun _ _ H _ ⟨s1, _, _⟩ => s1.seq hl) ?_ ?_
 ·rintro i x ys H hx hy ⟨s1, e1, e2⟩
  have hi : i < xs.length := (List.getElem?_eq_some_iff.mp hx).1
  refine hs x H _ (List.mem_of_getElem? hx) s1 (FJ.of hz hi hy e1 ⟨s1.updFresh hD, AI, ?_⟩)
  rw [List.take_succ, hx, List.map_append, e2]; rfl
 ·rintro ys H hy ⟨s1, e1, e2⟩
  rw [List.take_length] at e2
  subst e2
  exact hd H s1 e1
open PySem.W
noncomputable def KOk (n : Nat) (lt : Nat → Nat → Bool) {α : Type} : KasT α → (α → Prop) → Prop
 | .ret a, Q => Q a
 | .ask i j k, Q => i < n ∧ j < n ∧ KOk n lt (k (lt i j)) Q
theorem KOk.bind {n : Nat} {lt : Nat → Nat → Bool} {α β : Type} {f : α → KasT β} {Q : β → Prop} : ∀ {t : KasT α}, KOk n lt t (fun a => KOk n lt (f a) Q) → KOk n lt (t.bind f) Q
 | .ret _, h => h
 | .ask _ _ k, h => ⟨h.1, h.2.1, KOk.bind (t := k _) h.2.2⟩
theorem KOk.mono {n : Nat} {lt : Nat → Nat → Bool} {α : Type} {Q Q' : α → Prop} (hq : ∀ a, Q a → Q' a) : ∀ {t : KasT α}, KOk n lt t Q → KOk n lt t Q'
 | .ret _, h => hq _ h
 | .ask _ _ k, h => ⟨h.1, h.2.1, KOk.mono hq (t := k _) h.2.2⟩
theorem KOk.wp {n : Nat} {lt : Nat → Nat → Bool} {α : Type} {cmp : Nat → Nat → (Bool → Shared → Prop) → Shared → Prop} {Q : α → Shared → Prop} {s : Shared} (hc : ∀ i j C, i < n → j < n → C (lt i j) s → cmp i j C s) : ∀ {t : KasT α}, KOk n lt t (fun a => Q a s) → t.kasWp cmp Q s
 | .ret _, h => h
 | .ask i j k, h => hc i j _ h.1 h.2.1 (KOk.wp hc (t := k _) h.2.2)
structure STO (n : Nat) (lt : Nat → Nat → Bool) : Prop where
 tri : ∀ i j, i < n → j < n → i ≠ j → lt i j = true ∨ lt j i = true
 asym : ∀ i j, lt i j = true → lt j i = false
 trans : ∀ i j k, lt i j = true → lt j k = true → lt i k = true
section
variable {n : Nat} {lt : Nat → Nat → Bool} {p : Array Nat}
noncomputable def at0 (p : Array Nat) (i : Nat) : Nat := p.getD i 0
structure PR (n : Nat) (p : Array Nat) : Prop where
 pm : p.Perm (List.range n).toArray
theorem PR.size (h : PR n p) : p.size = n := by simpa using h.pm.size_eq
theorem PR.bd (h : PR n p) {i : Nat} (hi : i < n) : at0 p i < n := by
 have hs := h.size
 have hm : p[i]'(by lia) ∈ p := Array.getElem_mem _
 have := (h.pm.mem_iff).mp hm
 have e : at0 p i = p[i]'(by lia) := by unfold at0; rw [Array.getD_eq_getD_getElem?, Array.getElem?_eq_getElem (by lia)]; rfl
 rw [e]
 simpa using this
theorem PR.inj (h : PR n p) {i j : Nat} (hi : i < n) (hj : j < n) (e : at0 p i = at0 p j) : i = j := by
 have hs := h.size
 have hnd : p.toList.Nodup := by
  have hp : p.toList.Perm (List.range n) := by simpa using Array.perm_iff_toList_perm.mp h.pm
  exact hp.nodup_iff.mpr List.nodup_range
 have ei : at0 p i = p.toList[i]'(by simpa using (by lia : i < p.size)) := by unfold at0; rw [Array.getD_eq_getD_getElem?, Array.getElem?_eq_getElem (by lia)]; simp
 have ej : at0 p j = p.toList[j]'(by simpa using (by lia : j < p.size)) := by unfold at0; rw [Array.getD_eq_getD_getElem?, Array.getElem?_eq_getElem (by lia)]; simp
 rw [ei, ej] at e
 exact (List.getElem_inj hnd).mp e
noncomputable def Srt (lt : Nat → Nat → Bool) (p : Array Nat) (k : Nat) : Prop := ∀ i, i + 1 < k → lt (at0 p i) (at0 p (i + 1)) = true
noncomputable def Dsc (lt : Nat → Nat → Bool) (p : Array Nat) (k : Nat) : Prop := ∀ i, i + 1 < k → lt (at0 p (i + 1)) (at0 p i) = true
theorem Srt.all (S : STO n lt) {k : Nat} (h : Srt lt p k) : ∀ {i j : Nat}, i < j → j < k → lt (at0 p i) (at0 p j) = true := by
 intro i j hij hj
 induction j with
 | zero => lia
 | succ j ih =>
  by_cases e : i = j
  ·subst e; exact h i hj
  ·exact S.trans _ _ _ (ih (by lia) (by lia)) (h j hj)
theorem Hn (S : STO n lt) (hp : PR n p) : ∀ (f a : Nat), 1 ≤ a → a + f ≤ n → Srt lt p a → KOk n lt (kas_asc p f a) (fun m => a ≤ m ∧ m ≤ a + f ∧ Srt lt p m ∧ (m < a + f → lt (at0 p m) (at0 p (m - 1)) = true))
 | 0, a, h1, h2, hs => ⟨Nat.le_refl _, Nat.le_refl _, hs, fun h => by lia⟩
 | f + 1, a, h1, h2, hs => by
  refine ⟨hp.bd (i := a) (by lia), hp.bd (i := a - 1) (by lia), ?_⟩
  cases c : lt (p.getD a 0) (p.getD (a - 1) 0) with
  | true => exact ⟨Nat.le_refl _, by lia, hs, fun _ => c⟩
  | false =>
   have hs' : Srt lt p (a + 1) := fun i hi => by
    by_cases e : i + 1 = a
    ·have e' : i = a - 1 := by lia
     subst e'
     rcases S.tri (at0 p (a - 1)) (at0 p a) (hp.bd (by lia)) (hp.bd (by lia)) (fun z => by have := hp.inj (by lia) (by lia) z; lia) with z | z
     ·rw [show a - 1 + 1 = a by lia]; exact z
     ·have z' : lt (p.getD a 0) (p.getD (a - 1) 0) = true := z
      rw [c] at z'; cases z'
    ·exact hs i (by lia)
   refine KOk.mono (fun m hm => ?_) (Hn S hp f (a + 1) (by lia) (by lia) hs')
   exact ⟨by lia, by lia, hm.2.2.1, fun h => hm.2.2.2 (by lia)⟩
theorem IM (S : STO n lt) (hp : PR n p) : ∀ (f a : Nat), 1 ≤ a → a + f ≤ n → Dsc lt p a → KOk n lt (kas_desc f p a 0) (fun r => r.1 = p ∧ r.2.2 = 0 ∧ a ≤ r.2.1 ∧ r.2.1 ≤ a + f ∧ Dsc lt p r.2.1)
 | 0, a, h1, h2, hs => ⟨rfl, rfl, Nat.le_refl _, Nat.le_refl _, hs⟩
 | f + 1, a, h1, h2, hs => by
  refine ⟨hp.bd (i := a) (by lia), hp.bd (i := a - 1) (by lia), ?_⟩
  cases c : lt (p.getD a 0) (p.getD (a - 1) 0) with
  | true =>
   dsimp only
   rw [if_pos rfl, if_neg (by lia)]
   have hs' : Dsc lt p (a + 1) := fun i hi => by
    by_cases e : i + 1 = a
    ·have e' : i = a - 1 := by lia
     subst e'
     rw [show a - 1 + 1 = a by lia]; exact c
    ·exact hs i (by lia)
   refine KOk.mono (fun m hm => ?_) (IM S hp f (a + 1) (by lia) (by lia) hs')
   exact ⟨hm.1, hm.2.1, by lia, by lia, hm.2.2.2.2⟩
  | false =>
   dsimp only
   rw [if_neg (by simp)]
   refine ⟨hp.bd (i := a - 1) (by lia), hp.bd (i := a) (by lia), ?_⟩
   have d : lt (p.getD (a - 1) 0) (p.getD a 0) = true := by
    rcases S.tri (at0 p (a - 1)) (at0 p a) (hp.bd (by lia)) (hp.bd (by lia)) (fun z => by have := hp.inj (by lia) (by lia) z; lia) with z | z
    ·exact z
    ·have z' : lt (p.getD a 0) (p.getD (a - 1) 0) = true := z
     rw [c] at z'; cases z'
   rw [d]
   dsimp only
   rw [if_pos rfl]
   exact ⟨rfl, rfl, Nat.le_refl _, Nat.le_add_right _ _, hs⟩
theorem Ja (hp : PR n p) {m k : Nat} (hm : m ≤ n) (hk : k < m) : at0 (kas_rev p 0 m) k = at0 p (m - 1 - k) := by
 have hs := hp.size
 unfold at0 kas_rev
 rw [Array.getD_eq_getD_getElem?, Array.getD_eq_getD_getElem?, getElem?_mirror_all (by lia), if_pos ⟨by lia, hk⟩]
 rw [show 0 + m - 1 - k = m - 1 - k by lia]
theorem Od (S : STO n lt) (hp : PR n p) {m : Nat} (hm : m ≤ n) (h : Dsc lt p m) : PR n (kas_rev p 0 m) ∧ Srt lt (kas_rev p 0 m) m := by
 refine ⟨⟨(mirror_perm ..).trans hp.pm⟩, fun i hi => ?_⟩
 rw [Ja hp hm (by lia), Ja hp hm (by lia)]
 have := h (m - 1 - (i + 1)) (by lia)
 rw [show m - 1 - (i + 1) + 1 = m - 1 - i by lia] at this
 exact this
theorem Jo (S : STO n lt) (hp : PR n p) {m : Nat} (h1 : 1 ≤ m) (hm : m ≤ n) (h : Dsc lt p m) : KOk n lt (kas_tail3 m n p) (fun r => PR n r.2 ∧ r.1 ≤ n ∧ 1 ≤ r.1 ∧ Srt lt r.2 r.1) := by
 obtain ⟨hp', hs⟩ := Od S hp hm h
 refine KOk.bind (KOk.mono (fun k hk => ?_) (Hn S hp' (n - m) m h1 (by lia) hs))
 exact ⟨hp', by lia, by lia, hk.2.2.1⟩
theorem G2 (S : STO n lt) (hp : PR n p) (h2 : 2 ≤ n) (h : lt (at0 p 1) (at0 p 0) = true) : KOk n lt (kas_descPart 1 n p) (fun r => PR n r.2 ∧ r.1 ≤ n ∧ 1 ≤ r.1 ∧ Srt lt r.2 r.1) := by
 have hs : Dsc lt p 2 := fun i hi => by
  have e : i = 0 := by lia
  subst e; exact h
 refine KOk.bind (KOk.mono (fun r hr => ?_) (IM S hp (n - (1 + 1)) (1 + 1) (by lia) (by lia) hs))
 obtain ⟨e1, e2, h3, h4, h5⟩ := hr
 rw [e2, if_neg (by lia), e1]
 exact Jo S hp (by lia) (by lia) h5
theorem Ju (S : STO n lt) (hp : PR n p) (h2 : 2 ≤ n) : KOk n lt (kas_count n p) (fun r => PR n r.2 ∧ r.1 ≤ n ∧ 1 ≤ r.1 ∧ Srt lt r.2 r.1) := by
 refine KOk.bind (KOk.mono (fun m hm => ?_) (Hn S hp (n - 1) 1 (Nat.le_refl _) (by lia) (fun i hi => by lia)))
 obtain ⟨m1, m2, hs, hstop⟩ := hm
 by_cases e : m = n
 ·rw [if_pos (by simp [e])]
  exact ⟨hp, by lia, m1, hs⟩
 ·rw [if_neg (by simp [e])]
  by_cases e1 : m > 1
  ·rw [if_pos e1]
   refine ⟨hp.bd (i := 0) (by lia), hp.bd (i := m - 1) (by lia), ?_⟩
   have c : lt (p.getD 0 0) (p.getD (m - 1) 0) = true := Srt.all S hs (i := 0) (j := m - 1) (by lia) (by lia)
   rw [c]
   dsimp only
   rw [if_pos rfl]
   exact ⟨hp, by lia, m1, hs⟩
  ·rw [if_neg e1]
   have e2 : m = 1 := by lia
   subst e2
   exact G2 S hp h2 (hstop (by lia))
theorem Ev (S : STO n lt) (hp : PR n p) {k : Nat} (hk : k < n) (hs : Srt lt p k) : ∀ (f l r : Nat), r - l ≤ f → l ≤ r → r ≤ k → (∀ i, i < l → lt (at0 p i) (at0 p k) = true) → (∀ i, r ≤ i → i < k → lt (at0 p k) (at0 p i) = true) →
  KOk n lt (kas_place p k f l r) (fun l => l ≤ k ∧ (∀ i, i < l → lt (at0 p i) (at0 p k) = true) ∧ ∀ i, l ≤ i → i < k → lt (at0 p k) (at0 p i) = true)
 | 0, l, r, h1, h2, h3, h4, h5 => ⟨by lia, h4, fun i hi hik => h5 i (by lia) hik⟩
 | f + 1, l, r, h1, h2, h3, h4, h5 => by
  unfold kas_place
  by_cases e : l ≥ r
  ·rw [if_pos e]
   exact ⟨by lia, h4, fun i hi hik => h5 i (by lia) hik⟩
  ·rw [if_neg e]
   refine ⟨hp.bd (i := k) hk, hp.bd (i := (l + r) / 2) (by lia), ?_⟩
   have hmid : (l + r) / 2 < r ∧ l ≤ (l + r) / 2 := by lia
   cases c : lt (p.getD k 0) (p.getD ((l + r) / 2) 0) with
   | true =>
    dsimp only
    rw [if_pos rfl]
    refine Ev S hp hk hs f l ((l + r) / 2) (by lia) (by lia) (by lia) h4 fun i hi hik => ?_
    by_cases e2 : i = (l + r) / 2
    ·subst e2; exact c
    ·exact S.trans _ _ _ c (Srt.all S hs (by lia) hik)
   | false =>
    dsimp only
    rw [if_neg (by simp)]
    have d : lt (at0 p ((l + r) / 2)) (at0 p k) = true := by
     rcases S.tri (at0 p ((l + r) / 2)) (at0 p k) (hp.bd (by lia)) (hp.bd hk) (fun z => by have := hp.inj (by lia) hk z; lia) with z | z
     ·exact z
     ·have z' : lt (p.getD k 0) (p.getD ((l + r) / 2) 0) = true := z
      rw [c] at z'; cases z'
    refine Ev S hp hk hs f ((l + r) / 2 + 1) r (by lia) (by lia) h3 (fun i hi => ?_) h5
    by_cases e2 : i = (l + r) / 2
    ·subst e2; exact d
    ·exact S.trans _ _ _ (Srt.all S hs (i := i) (j := (l + r) / 2) (by lia) (by lia)) d
theorem F0 (hp : PR n p) {k l j : Nat} (hk : k < n) (hl : l ≤ k) : at0 (bubble p k (k - l)) j = if j = l then at0 p k else if l < j ∧ j ≤ k then at0 p (j - 1) else at0 p j := by
 have hs := hp.size
 unfold at0
 rw [Array.getD_eq_getD_getElem?, getElem?_bubble (by lia) (k - l) (by lia) j, show k - (k - l) = l by lia]
 repeat' split
 all_goals rw [Array.getD_eq_getD_getElem?]
theorem J3 (S : STO n lt) : ∀ (f k : Nat) (p : Array Nat), PR n p → k + f = n → Srt lt p k → KOk n lt (kas_bin f p k) (fun q => PR n q ∧ Srt lt q n)
 | 0, k, p, hp, hk, hs => by
  have e : k = n := by lia
  subst e
  exact ⟨hp, hs⟩
 | f + 1, k, p, hp, hk, hs => by
  refine KOk.bind (KOk.mono (fun l hl => ?_) (Ev S hp (by lia) hs k 0 k (by lia) (by lia) (Nat.le_refl _) (fun i hi => by lia) (fun i h1 h2 => by lia)))
  obtain ⟨h1, h2, h3⟩ := hl
  refine J3 S f (k + 1) _ ⟨(bubble_perm ..).trans hp.pm⟩ (by lia) fun i hi => ?_
  rw [F0 hp (by lia) h1, F0 hp (by lia) h1]
  by_cases c1 : i + 1 < l
  ·rw [if_neg (by lia), if_neg (by lia), if_neg (by lia), if_neg (by lia)]
   exact hs i (by lia)
  ·by_cases c2 : i + 1 = l
   ·rw [if_neg (by lia), if_neg (by lia), if_pos c2]
    exact h2 i (by lia)
   ·by_cases c3 : i = l
    ·rw [if_pos c3, if_neg (by lia), if_pos (by lia), show i + 1 - 1 = i by lia]
     exact h3 i (by lia) (by lia)
    ·rw [if_neg c3, if_pos (by lia), if_neg (by lia), if_pos (by lia), show i + 1 - 1 = i by lia]
     have := hs (i - 1) (by lia)
     rw [show i - 1 + 1 = i by lia] at this
     exact this
theorem Kf (S : STO n lt) (h2 : 2 ≤ n) : KOk n lt (kas_sort n) (fun q => PR n q ∧ Srt lt q n) := by
 refine KOk.bind (KOk.mono (fun r hr => ?_) (Ju S ⟨Array.Perm.refl _⟩ h2))
 obtain ⟨h1, h3, h4, h5⟩ := hr
 by_cases e : r.1 < n
 ·rw [if_pos e, show max r.1 1 = r.1 by lia]
  exact J3 S _ _ _ h1 (by lia) h5
 ·rw [if_neg e]
  exact ⟨h1, by have e2 : r.1 = n := by lia
                rw [← e2]; exact h5⟩
end
section
variable {prog : Program} {w : World} {A : Around} {E : Value → Shared → Prop} {s : Shared}
noncomputable def Bn (vs : List Value) (p : Array Nat) : List Value := p.toList.map fun i => vs.getD i Value.none
theorem Iq {vs : List Value} {p : Array Nat} (hp : PR vs.length p) : (Bn vs p).length = vs.length := by
 unfold Bn; rw [List.length_map, Array.length_toList, hp.size]
theorem ER {vs : List Value} (h : vs.length < 2) : Bn vs (List.range vs.length).toArray = vs := by
 cases vs with
 | nil => rfl
 | cons a r =>
  cases r with
  | nil => rfl
  | cons b q => simp only [List.length_cons] at h; lia
theorem LL (vs : List Value) : (vs.toArray.zip vs.toArray).map (·.2) = vs.toArray := by
 apply Array.toList_inj.mp
 rw [Array.toList_map, Array.toList_zip]
 exact List.map_snd_zip (Nat.le_refl _)
theorem Jl {a : Addr} {vs : List Value} {n : Nat} {lt : Nat → Nat → Bool} {P : PySem.Fin → Shared → Prop} (ho : s.heap.get? a = some (seqObj "list" vs.toArray n)) (S : STO vs.length lt) (h64 : vs.length < 64)
  (hc : 2 ≤ vs.length → ∀ h' : Heap, (∀ b o, b ≠ a → s.heap.get? b = some o → h'.get? b = some o) → ∃ κ : SortKind,
   (∀ (R : SortKind → Shared → Prop), R κ { s with heap := h' } → wpAny (model prog w) A (keyKind' vs.toArray) R (fun _ _ => False) { s with heap := h' }) ∧
   ∀ i j (C : Bool → Shared → Prop), i < vs.length → j < vs.length → C (lt i j) { s with heap := h' } → wpAny (model prog w) A (keyLt' κ (vs.getD i Value.none) (vs.getD j Value.none)) C (fun _ _ => False) { s with heap := h' })
  (h : ∀ (h' : Heap) (p : Array Nat) (c : Nat), (∀ b o, b ≠ a → s.heap.get? b = some o → h'.get? b = some o) → h'.get? a = some (seqObj "list" (Bn vs p).toArray c) → PR vs.length p → Srt lt p vs.length → P (.done (.ret .none)) { s with heap := h' }) :
  wpAny (model prog w) A (Builtin.«list.sort» ⟨[.ref a], []⟩) P E s := by
 have ha : a < s.heap.objs.size := Heap.lt_size ho
 have s1 := Heap.SameBut.update s.heap a (Obj.mapSeq fun _ => (#[] : Array Value))
 obtain ⟨e1, ho1⟩ : ∃ e1, (s.heap.update a (Obj.mapSeq fun _ => (#[] : Array Value))).get? a = some (seqObj "list" #[] e1) := ⟨_, get?_update_seq ho fun _ => #[]⟩
 rw [list_sort_plain]
 refine wpAny_bind (listItems_at ho rfl ?_)
 refine wpAny_bind (listUpdate_at ho rfl ?_ (by rw [List.size_toArray, sizeLine_eq]; lia) (Nat.zero_le _))
 refine wpAny_bind (seqEpoch_at ho1 rfl ?_)
 refine wpAny_bind (wpAny_newTuple ?_ (by show vs.length ≤ _; rw [sizeLine_eq]; lia))
 refine wpAny_bind (wpAny_newList ?_ (Nat.zero_le _))
 refine wpAny_holding ?_
 generalize hH : ((s.heap.update a (Obj.mapSeq fun _ => (#[] : Array Value))).push (seqObj "tuple" vs.toArray 0)).push (seqObj "list" #[] 0) = H3
 show wpAny (model prog w) A _ P E { s with heap := H3 }
 dsimp only
 have keep3 : ∀ b o, b ≠ a → s.heap.get? b = some o → H3.get? b = some o := fun b o hb e => by
  rw [← hH]; exact Heap.get?_push_of_some _ (Heap.get?_push_of_some _ ((s1.2 b hb).trans e))
 have at3 : H3.get? a = some (seqObj "list" #[] e1) := by rw [← hH]; exact Heap.get?_push_of_some _ (Heap.get?_push_of_some _ ho1)
 have fin : ∀ (p : Array Nat), PR vs.length p → Srt lt p vs.length → P (.done (.ret .none)) { s with heap := H3.update a (Obj.mapSeq fun _ => (Bn vs p).toArray) } := fun p hp hs => by
  obtain ⟨c2, hc2⟩ : ∃ c2, (H3.update a (Obj.mapSeq fun _ => (Bn vs p).toArray)).get? a = some (seqObj "list" (Bn vs p).toArray c2) := ⟨_, get?_update_seq at3 fun _ => (Bn vs p).toArray⟩
  exact h _ p c2 (fun b o hb e => ((Heap.SameBut.update H3 a _).2 b hb).trans (keep3 b o hb e)) hc2 hp hs
 by_cases h2 : vs.toArray.size < 2
 ·rw [if_pos h2, if_pos h2]
  have hl2 : vs.length < 2 := by simpa using h2
  refine wpAny_bind (wpAny_pure ?_)
  rw [StateT.run_pure]
  refine wpAny_bind (wpAny_pure ?_)
  dsimp only
  refine wpAny_bind (seqEpoch_at at3 rfl ?_)
  have ez : ((vs.toArray.zip vs.toArray).map (·.2)) = (Bn vs (List.range vs.length).toArray).toArray := by
   rw [ER hl2]
   exact LL vs
  show wpAny _ _ (Builtin.List.listUpdate (.ref a) (fun _ => (vs.toArray.zip vs.toArray).map (·.2)) >>= _) _ _ _
  rw [ez]
  refine wpAny_bind (listUpdate_at at3 rfl ?_ (Nat.zero_le _) (by show (Bn vs (List.range vs.length).toArray).toArray.size ≤ _; rw [ER hl2, List.size_toArray, sizeLine_eq]; lia))
  simp only [bne_self_eq_false, Bool.false_eq_true, if_false]
  exact wpAny_pure (fin _ ⟨Array.Perm.refl _⟩ fun i hi => by lia)
 ·rw [if_neg h2, if_neg h2]
  have hl2 : 2 ≤ vs.length := by simpa using h2
  obtain ⟨κ, k1, k2⟩ := hc hl2 H3 keep3
  refine wpAny_bind (wpAny_mono (k1 (fun κ' s' => κ' = κ ∧ s' = { s with heap := H3 }) ⟨rfl, rfl⟩) ?_ fun _ _ x => x.elim)
  rintro κ' s' ⟨rfl, rfl⟩
  refine wpAny_bind (wpAny_mono (kat_run (Q := fun st' s' => ∃ p : Array Nat, arrOf st' = p.map (kas_item (vs.toArray.zip vs.toArray)) ∧ failedOf st' = none ∧ PR vs.length p ∧ Srt lt p vs.length ∧ s' = { s with heap := H3 })
   (G := fun p s' => PR vs.length p ∧ Srt lt p vs.length ∧ s' = { s with heap := H3 }) rfl hl2 h64 (fun p' st' s' a1 a2 a3 a4 => ⟨p', a2, a3, a4⟩)
   (KOk.wp (fun i j C hi hj q => k2 i j C hi hj q) (KOk.mono (fun q hq => ⟨hq.1, hq.2, rfl⟩) (Kf S hl2)))) ?_ fun _ _ e => e)
  rintro ⟨⟨⟩, st'⟩ s' ⟨p, har, hf, hp, hs, rfl⟩
  dsimp only
  refine wpAny_bind (seqEpoch_at at3 rfl ?_)
  have hout : (arrOf st').map (·.2) = (Bn vs p).toArray := kat_snds rfl har
  rw [hout]
  refine wpAny_bind (listUpdate_at at3 rfl ?_ (Nat.zero_le _) (by show (Bn vs p).toArray.size ≤ _; rw [List.size_toArray, Iq hp, sizeLine_eq]; lia))
  rw [hf]
  simp only [bne_self_eq_false, Bool.false_eq_true, if_false]
  exact wpAny_pure (fin p hp hs)
theorem Iy {l : Addr} {vs : List Value} {lt : Nat → Nat → Bool} {Q : Value → Shared → Prop} (hl : s.heap.IsList l vs.toArray) (S : STO vs.length lt) (h64 : vs.length < 64)
  (hc : 2 ≤ vs.length → ∀ h' : Heap, (∀ b o, s.heap.get? b = some o → h'.get? b = some o) → ∃ κ : SortKind,
   (∀ (R : SortKind → Shared → Prop), R κ { s with heap := h' } → wpAny (model prog w) A.in1.in1 (keyKind' vs.toArray) R (fun _ _ => False) { s with heap := h' }) ∧
   ∀ i j (C : Bool → Shared → Prop), i < vs.length → j < vs.length → C (lt i j) { s with heap := h' } → wpAny (model prog w) A.in1.in1 (keyLt' κ (vs.getD i Value.none) (vs.getD j Value.none)) C (fun _ _ => False) { s with heap := h' })
  (h : ∀ (D : Addr) (h' : Heap) (p : Array Nat) (c : Nat), s.heap.objs.size ≤ D → (∀ b o, s.heap.get? b = some o → h'.get? b = some o) → h'.get? D = some (seqObj "list" (Bn vs p).toArray c) → PR vs.length p → Srt lt p vs.length → Q (.ref D) { s with heap := h' }) :
  wpAny (model prog w) A (call (.builtin "sorted") [.ref l]) Q E s := by
 refine Calls.call_function_entry kind_sorted plain_sorted entry_sorted (args_sorted1 _) ?_
 unfold Builtin.«sorted»
 refine wpAny_bind (m := checkCount "sorted" 1 1 _) (wpAny_pure ?_)
 refine wpAny_bind (collect_list hl ?_ (by rw [sizeLine_eq]; lia))
 refine wpAny_bind (wpAny_newList ?_ (by rw [sizeLine_eq]; lia))
 have hsz : ((s.heap.push (seqObj "list" #[] 0)).update s.heap.objs.size (Obj.mapSeq (· ++ vs.toArray))).objs.size = s.heap.objs.size + 1 := by
  rw [Heap.size_update, size_push']
 have hoL : (((s.heap.push (seqObj "list" #[] 0)).update s.heap.objs.size (Obj.mapSeq (· ++ vs.toArray))).push (seqObj "list" vs.toArray 0)).get? (s.heap.objs.size + 1) = some (seqObj "list" vs.toArray 0) := by
  rw [← hsz]; exact Heap.get?_push_size _ rfl
 have keep : ∀ b o, s.heap.get? b = some o → (((s.heap.push (seqObj "list" #[] 0)).update s.heap.objs.size (Obj.mapSeq (· ++ vs.toArray))).push (seqObj "list" vs.toArray 0)).get? b = some o := fun b o q => by
  have hlt : b < s.heap.objs.size := Heap.lt_size q
  rw [Heap.get?_push_ne _ _ _ (by rw [hsz]; exact Nat.ne_of_lt (Nat.lt_succ_of_lt hlt)), Heap.get?_update_ne _ _ _ _ (Nat.ne_of_lt hlt), Heap.get?_push_ne _ _ _ (Nat.ne_of_lt hlt)]
  exact q
 show wpAny _ _ _ _ _ { s with heap := ((s.heap.push (seqObj "list" #[] 0)).update s.heap.objs.size (Obj.mapSeq (· ++ vs.toArray))).push (seqObj "list" vs.toArray 0) }
 rw [hsz]
 have ne : ∀ b o, s.heap.get? b = some o → b ≠ s.heap.objs.size + 1 := fun b o q => Nat.ne_of_lt (Nat.lt_succ_of_lt (Heap.lt_size q))
 refine wpAny_bind (wpAny_holding (wpAny_call_entry slot_list_sort ⟨_, hoL, rfl⟩ entry_list_sort ?body (args_list_sort _)))
 case body =>
  refine Jl (s := { s with heap := ((s.heap.push (seqObj "list" #[] 0)).update s.heap.objs.size (Obj.mapSeq (· ++ vs.toArray))).push (seqObj "list" vs.toArray 0) }) hoL S h64
   (fun h2 h' k => hc h2 h' fun b o q => k b o (ne b o q) (keep b o q)) fun h' p c k hat hp hs => ?_
  exact ⟨_, rfl, wpAny_pure ⟨_, rfl, h _ h' p c (Nat.le_succ _) (fun b o q => k b o (ne b o q) (keep b o q)) hat hp hs⟩⟩
end
theorem Gv : ∀ {a b : List Int}, HT.lexLt a b = true → HT.lexLt b a = false
 | [], [], h => by cases h
 | [], _ :: _, _ => rfl
 | _ :: _, [], h => by cases h
 | x :: r, y :: t, h => by
  rw [HT.lexLt_cons] at h ⊢
  by_cases e : x = y
  ·rw [if_pos e] at h; rw [if_pos e.symm]; exact Gv h
  ·rw [if_neg e] at h; rw [if_neg (Ne.symm e)]
   have := of_decide_eq_true h
   exact decide_eq_false (by lia)
theorem Fo : ∀ {a b c : List Int}, HT.lexLt a b = true → HT.lexLt b c = true → HT.lexLt a c = true
 | [], _, [], _, h => by rename_i b _; cases b <;> cases h
 | [], _, _ :: _, _, _ => rfl
 | _ :: _, [], _, h, _ => by cases h
 | _ :: _, _ :: _, [], _, h => by cases h
 | x :: r, y :: t, z :: u, h1, h2 => by
  rw [HT.lexLt_cons] at h1 h2 ⊢
  by_cases e1 : x = y
  ·rw [if_pos e1] at h1
   by_cases e2 : y = z
   ·rw [if_pos e2] at h2; rw [if_pos (e1.trans e2)]; exact Fo h1 h2
   ·rw [if_neg e2] at h2; rw [if_neg (by lia), e1]; exact h2
  ·rw [if_neg e1] at h1
   by_cases e2 : y = z
   ·rw [if_neg (by lia), ← e2]; exact h1
   ·rw [if_neg e2] at h2
    have d1 := of_decide_eq_true h1
    have d2 := of_decide_eq_true h2
    rw [if_neg (by lia)]
    exact decide_eq_true (by lia)
theorem IZ : ∀ {a b : List Int}, a ≠ b → HT.lexLt a b = true ∨ HT.lexLt b a = true
 | [], [], h => absurd rfl h
 | [], _ :: _, _ => .inl rfl
 | _ :: _, [], _ => .inr rfl
 | x :: r, y :: t, h => by
  rw [HT.lexLt_cons, HT.lexLt_cons]
  by_cases e : x = y
  ·rw [if_pos e, if_pos e.symm]
   exact IZ fun z => h (by rw [e, z])
  ·rw [if_neg e, if_neg (Ne.symm e)]
   rcases (by lia : x < y ∨ y < x) with z | z
   ·exact .inl (decide_eq_true z)
   ·exact .inr (decide_eq_true z)
theorem Kk {ts : List (List Int)} (h : ts.Nodup) : STO ts.length (fun i j => HT.lexLt (ts.getD i []) (ts.getD j [])) where
 tri := fun i j hi hj hij => IZ fun z => hij ((List.getElem_inj h).mp (by simpa [List.getD_eq_getElem?_getD, hi, hj] using z))
 asym := fun _ _ => Gv
 trans := fun _ _ _ => Fo
section
variable {prog : Program} {w : World} {A : Around} {s : Shared}
theorem EG {Q : Bool → Shared → Prop} : ∀ {t1 t2 : List Int} {us ws : List Value} (i : Nat) (fin : Bool), AT (t1.map V.int) us → AT (t2.map V.int) ws → fin = decide (t1.length < t2.length) → Q (HT.lexLt t1 t2) s →
  KatLex prog w A true fin Q (us.zip ws) i s
 | [], [], us, ws, i, fin, r1, r2, hf, q => by
  cases r1; cases r2
  rw [hf]; exact q
 | [], _ :: _, us, ws, i, fin, r1, r2, hf, q => by
  cases r1
  rw [hf]; exact q
 | x :: t1, [], us, ws, i, fin, r1, r2, hf, q => by
  cases r2
  have e : us.zip ([] : List Value) = [] := by cases us <;> rfl
  rw [e, hf]; exact q
 | x :: t1, y :: t2, us, ws, i, fin, r1, r2, hf, q => by
  cases r1 with
  | cons ra rb =>
   cases r2 with
   | cons rc rd =>
    obtain ⟨k1, rfl⟩ := ra
    obtain ⟨k2, rfl⟩ := rc
    refine kat_cons (wpAny_eqBool_int ?_)
    rw [HT.lexLt_cons] at q
    by_cases e : x = y
    ·rw [if_pos e] at q
     have e2 : (x == y) = true := by simpa using e
     rw [e2]
     refine kat_yes (EG (i + 1) fin rb rd ?_ q)
     rw [hf]; simp
    ·rw [if_neg e] at q
     have e2 : (x == y) = false := by simpa using e
     rw [e2]
     refine kat_no ?_
     cases i with
     | zero => exact oneLt_int q
     | succ i => exact kat_one _ _ (lt_int (show W.BoolBack Q (.bool (decide (x < y))) s from q))
end
section
variable {X : Cx}
theorem F5 : ∀ {zs : List (Addr × List Int)} {us : List Value}, AT (zs.map fun z => V.ref z.1) us → us = zs.map fun z => Value.ref z.1
 | [], _, r => by cases r; rfl
 | z :: zs, _, r => by
  cases r with
  | cons ra rb =>
   cases ra
   rw [F5 rb]; rfl
theorem HC {h : Heap} {K : PySem.W.Frag} {M : Model} : ∀ {zs : List (Addr × List Int)}, (∀ z ∈ zs, z.2 ≠ [] ∧ ∃ its : List Value, AT (z.2.map V.int) its ∧ IsTup h z.1 its.toArray) →
  ∃ fs : List Value, KatTups h (zs.map fun z => Value.ref z.1) fs ∧ fs.length = zs.length ∧ ∀ v ∈ fs, ∃ i t, v = Value.int i t
 | [], _ => ⟨[], .nil, rfl, fun _ hv => absurd hv (by simp)⟩
 | z :: zs, hz => by
  obtain ⟨fs, h1, h2, h3⟩ := HC (h := h) (K := K) (M := M) (zs := zs) fun y hy => hz y (List.mem_cons_of_mem _ hy)
  obtain ⟨hne, its, rv, o, ho, hc, n, hd⟩ := hz z List.mem_cons_self
  obtain ⟨a, t⟩ := z
  cases t with
  | nil => exact absurd rfl hne
  | cons x t =>
   cases rv with
   | cons ra rb =>
    obtain ⟨tk, rfl⟩ := ra
    refine ⟨.int x tk :: fs, KatTups.cons ho hc hd (by simp) h1, by rw [List.length_cons, List.length_cons, h2], fun v hv => ?_⟩
    rcases List.mem_cons.mp hv with rfl | hv
    ·exact ⟨x, tk, rfl⟩
    ·exact h3 v hv
noncomputable def Bp (K : PySem.W.Frag) : List V → Hp → VK → Prop := fun xs H Q => ∃ l, xs = [.ref l] ∧ ∃ zs : List (Addr × List Int), SqL K H l (zs.map fun z => V.ref z.1) ∧ (∀ z ∈ zs, z.2 ≠ [] ∧ SqT K H z.1 (z.2.map V.int)) ∧ (zs.map (·.2)).Nodup ∧ zs.length < 64 ∧
 ∀ (D : Addr) (H' : Hp) (zs' : List (Addr × List Int)), H D = none → AH H H' → H' D = some (.lst (zs'.map fun z => V.ref z.1)) → zs'.Perm zs → zs'.Pairwise (fun a b => HT.lexLt a.2 b.2 = true) → Q (.ref D) H'
theorem Gs {zs : List (Addr × List Int)} {i : Nat} (hi : i < zs.length) : (zs.map fun z => Value.ref z.1).getD i Value.none = Value.ref (zs[i]).1 := by
 rw [List.getD_eq_getElem?_getD, List.getElem?_map, List.getElem?_eq_getElem hi]; rfl
noncomputable def EY {α : Type} (d : α) (xs : List α) (p : Array Nat) : List α := p.toList.map fun i => xs.getD i d
theorem JP {α : Type} (d : α) (xs : List α) {p : Array Nat} (hp : PR xs.length p) : (EY d xs p).Perm xs := by
 have h1 : p.toList.Perm (List.range xs.length) := by simpa using Array.perm_iff_toList_perm.mp hp.pm
 have h2 := h1.map fun i => xs.getD i d
 have h3 : ((List.range xs.length).map fun i => xs.getD i d) = xs := by
  refine List.ext_getElem (by simp) fun i h1 h2 => ?_
  simp [List.getD_eq_getElem?_getD]
  rw [List.getElem?_eq_getElem h2]; rfl
 rw [h3] at h2
 exact h2
theorem J4 {α β : Type} (d : α) (e : β) (f : α → β) (xs : List α) {p : Array Nat} (hp : PR xs.length p) : EY e (xs.map f) p = (EY d xs p).map f := by
 unfold EY
 rw [List.map_map]
 refine List.map_congr_left fun i hi => ?_
 have hi' : i < xs.length := by
  have := (hp.pm.mem_iff).mp (Array.mem_toList_iff.mp hi)
  simpa using this
 show (xs.map f).getD i e = f (xs.getD i d)
 rw [List.getD_eq_getElem?_getD, List.getD_eq_getElem?_getD, List.getElem?_map, List.getElem?_eq_getElem hi']; rfl
theorem IL {α : Type} (d : α) (xs : List α) {p : Array Nat} {k : Nat} (hk : k < (EY d xs p).length) : (EY d xs p)[k] = xs.getD (at0 p k) d := by
 have hk' : k < p.size := by simpa [EY] using hk
 have e : (EY d xs p)[k]? = some (xs.getD (at0 p k) d) := by
  unfold EY at0
  rw [List.getElem?_map, Array.getElem?_toList, Array.getD_eq_getD_getElem?, Array.getElem?_eq_getElem hk']; rfl
 rw [List.getElem?_eq_getElem hk] at e
 exact Option.some.inj e
theorem GQ : BF X (.builtin "sorted") (Bp X.K) := by
 intro pins s σ H xs us Q I r h
 obtain ⟨l, rfl, zs, hl, ht, nd, h64, q⟩ := h
 obtain ⟨u, rfl, ru⟩ := vals1 r
 cases ru
 obtain ⟨its, rv, pl, hz⟩ := I.list hl
 have ei := F5 rv
 subst ei
 have hlen : (zs.map fun z => Value.ref z.1).length = zs.length := List.length_map _
 have S : STO (zs.map fun z => Value.ref z.1).length (fun i j => HT.lexLt ((zs.map (·.2)).getD i []) ((zs.map (·.2)).getD j [])) := by
  rw [hlen]
  have := Kk nd
  rw [List.length_map] at this
  exact this
 refine Iy pl.isList S (by rw [hlen]; exact h64) (fun h2 h' kp => ?_) fun D h' p c hD kp hat hp hs => ?_
 ·have tups : ∀ z ∈ zs, z.2 ≠ [] ∧ ∃ its : List Value, AT (z.2.map V.int) its ∧ IsTup h' z.1 its.toArray := fun z hz => by
   obtain ⟨n1, n2⟩ := ht z hz
   obtain ⟨its, r1, ⟨o, ho, hc⟩, _⟩ := I.tuple n2
   exact ⟨n1, its, r1, o, kp _ _ ho, hc⟩
  obtain ⟨fs, t1, t2, t3⟩ := HC (K := X.K) (M := model X.prog X.w) tups
  refine ⟨tuples' (Value.type "int" != Value.type "tuple"), fun R hR => ?_, fun i j C hi hj hC => ?_⟩
  ·refine kat_kind t1 (by rw [t2]; rw [hlen] at h2; lia) (fun v hv => ?_) (by decide) hR
   obtain ⟨i, t, rfl⟩ := t3 v hv
   exact .of_pure rfl
  ·rw [hlen] at hi hj
   rw [Gs hi, Gs hj]
   obtain ⟨_, i1, r1, o1, ho1, _, n1, hd1⟩ := tups zs[i] (List.getElem_mem hi)
   obtain ⟨_, i2, r2, o2, ho2, _, n2, hd2⟩ := tups zs[j] (List.getElem_mem hj)
   have eb : (Value.type "int" != Value.type "tuple") = true := by decide
   rw [eb]
   have l1 := r1.length
   have l2 := r2.length
   rw [List.length_map] at l1 l2
   refine kat_lt ho1 hd1 ho2 hd2 ?_
   refine EG 0 _ r1 r2 ?_ ?_
   ·simp [l1, l2]
   ·have g1 : (zs.map (·.2)).getD i [] = zs[i].2 := by rw [List.getD_eq_getElem?_getD, List.getElem?_map, List.getElem?_eq_getElem hi]; rfl
    have g2 : (zs.map (·.2)).getD j [] = zs[j].2 := by rw [List.getD_eq_getElem?_getD, List.getElem?_map, List.getElem?_eq_getElem hj]; rfl
    rw [g1, g2] at hC
    exact hC
 ·rw [hlen] at hp hs
  have hfr : H D = none := I.hok.fresh hD
  have eo : Bn (zs.map fun z => Value.ref z.1) p = (EY ((0 : Addr), ([] : List Int)) zs p).map fun z => Value.ref z.1 := J4 (0, []) Value.none (fun z : Addr × List Int => Value.ref z.1) zs hp
  have ep := JP ((0 : Addr), ([] : List Int)) zs hp
  have rel : ∀ ys : List (Addr × List Int), AT (ys.map fun z => V.ref z.1) (ys.map fun z => Value.ref z.1) := fun ys => by
   induction ys with
   | nil => exact .nil
   | cons y ys ih => exact .cons rfl ih
  have I2 : Inv X pins σ (upd H D (.lst ((EY ((0 : Addr), ([] : List Int)) zs p).map fun z => V.ref z.1))) { s with heap := h' } := by
   refine I.laid (t' := s.toks) kp hD ⟨by rw [List.length_map, ep.length_eq, PySem.sizeLine_eq]; lia, _, c, rel _, ?_⟩
   rw [hat, eo]
  refine ⟨.ref D, _, I2, rfl, q D _ _ hfr (AZ hfr) AI ep ?_⟩
  refine List.pairwise_iff_getElem.mpr fun i j hi hj hij => ?_
  have hpl : (EY ((0 : Addr), ([] : List Int)) zs p).length = zs.length := ep.length_eq
  rw [IL, IL]
  have := Srt.all (n := zs.length) (by rw [hlen] at S; exact S) hs hij (by lia)
  have g : ∀ k, k < zs.length → (zs.map (·.2)).getD (at0 p k) [] = (zs.getD (at0 p k) (0, [])).2 := fun k hk => by
   have := hp.bd hk
   rw [List.getD_eq_getElem?_getD, List.getD_eq_getElem?_getD, List.getElem?_map, List.getElem?_eq_getElem this]; rfl
  rw [g i (by lia), g j (by lia)] at this
  exact this
end
theorem Ip : bootBuiltins "sorted" = some (.builtin "sorted") := by decide +kernel
section
variable {X : Cx} {pos : Pos}
noncomputable def CI : TE := fun _ H Q => ∀ p H', H p = none → AH H H' → H' p = some (.dK []) → Q (.ref p) H'
end
section
variable {X : Cx} {o e : Expr} {to te : TE} {pos : Pos}
theorem PE.weak {e : Expr} {t t' : TE} (h : PE X e t) (m : ∀ σ H Q, t' σ H Q → t σ H Q) : PE X e t' := fun pins s σ H Q I q => h pins s σ H Q I (m σ H Q q)
noncomputable def A8 (to te : TE) : TE := fun σ H Q => to σ H fun x H1 => ∃ l, x = .ref l ∧ ∃ xs, H1 l = some (.lst xs) ∧ te σ H1 fun y H2 => ∃ ys, H2 l = some (.lst ys) ∧ ys.length < sizeLine ∧ Q .non (upd H2 l (.lst (ys ++ [y])))
end
section
variable {X : Cx} {o e : Expr} {to te : TE} {pos apos cpos : Pos}
noncomputable def tMono (t : TE) : TE := fun σ H Q => ∃ P : VK, t σ H P ∧ ∀ v H', P v H' → Q v H'
theorem PE.mono {t : TE} (h : PE X e t) : PE X e (tMono t) := fun pins s σ H Q I ⟨P, h1, h2⟩ =>
 thn (h pins s σ H P I h1) fun u s1 ⟨v, H1, I1, r1, q1⟩ => ⟨v, H1, I1, r1, h2 v H1 q1⟩
theorem Fm (ho : PE X o to) (he : PE X e te)
  (hbase : attributeBase o "append" X.env (eval o X.env) = eval o X.env := by rfl)
  (hfew : ((backTo cpos (starEach [e] X.env)).all (fun x => !x.1) && (backToKw cpos (keywordEach [] X.env)).all (fun x => x.1.isSome)
   && decide ([e].length + ([] : List Keyword).length + (if ([] : List Keyword).isEmpty then 0 else 1) < 30)) = true := by rfl)
  (hline : (apos.endLine == cpos.line) = true := by rfl) (hs : starEach [e] X.env = (false, eval e X.env) :: starEach [] X.env := by rfl) (hplain : (backTo cpos (starEach [] X.env)).any (·.1) = false := by rfl) :
  PE X (.Call (.Attribute o "append" apos) [e] [] cpos) (A8 to te) :=
 PE.weak (EI PySem.F.plainAttrs_list PySem.F.slot_list_append PySem.F.type_list_append Dz ho.mono (AA he.mono AC hs) hbase hfew hline hs hplain) fun σ H Q h => by
  refine ⟨_, h, fun x H1 h1 => ?_⟩
  obtain ⟨l, rfl, xs, e1, h1⟩ := h1
  refine ⟨.inl ⟨rfl, xs, SqL.of e1⟩, _, h1, fun y H2 h2 => ?_⟩
  obtain ⟨ys, e2, hz, q⟩ := h2
  exact ⟨l, ys, y, rfl, rfl, e2, hz, q⟩
end
section
variable {X : Cx} {pos : Pos}
noncomputable def Fj (i j k : Nat) (ta : TA) : TS := fun D σ H => ta σ H fun vs H1 => ∃ v w u, vs = [v, w, u] ∧ D.nx (((σ.set i (some v)).set j (some w)).set k (some u)) H1
end
section
variable {X : Cx}
noncomputable def GU (K : PySem.W.Frag) : R2 := fun x y H Q => ∃ a b, x = .ref a ∧ y = .ref b ∧ ∃ ns : List Int, SqT K H a (ns.map V.int) ∧ ∃ ms : List Int, SqT K H b (ms.map V.int) ∧ Q (.bl (decide (ns = ms))) H
noncomputable def Gb (K : PySem.W.Frag) : R2 := fun x y H Q => ∃ a b, x = .ref a ∧ y = .ref b ∧ ∃ ns : List Int, SqT K H a (ns.map V.int) ∧ ∃ ms : List Int, SqT K H b (ms.map V.int) ∧ Q (.bl (!decide (ns = ms))) H
noncomputable def De (K : PySem.W.Frag) : R2 := fun x y H Q => ∃ a b, x = .ref a ∧ y = .ref b ∧ ∃ xs, SqL K H a xs ∧ SqL K H b [] ∧ Q (.bl (decide (xs = []))) H
theorem DS {K : PySem.W.Frag} (h : X.K = K) : IxR X (Ei K) := h ▸ BJ
noncomputable def FM (K : PySem.W.Frag) : V → Option Int → Option Int → Hp → VK → Prop := fun x lo hi H Q => ∃ a, x = .ref a ∧ ∃ xs, SqL K H a xs ∧ ∀ p H', H p = none → AH H H' → H' p = some (.lst (Ff xs lo hi)) → Q (.ref p) H'
theorem G9 : SlR X (FM X.K) := fun pins s σ H x v vl vu lo hi sl Q I rx hs pl pu ⟨a, e, xs, h, q⟩ => Ko pins s σ H x v vl vu lo hi sl Q I rx hs pl pu ⟨a, xs, e, h, fun p hp => q p _ hp (AZ hp) AI⟩
theorem Ig {xs : List V} {i : Nat} : Ff xs (some (i : Int)) none = xs.drop i := by
 unfold Ff
 rw [HT.sIx_nat, HT.sIx_none]
 by_cases h : i ≤ xs.length
 ·rw [Nat.min_eq_left h, List.take_of_length_le (by rw [List.length_drop]; lia)]
 ·rw [Nat.min_eq_right (by lia), Nat.sub_self, List.take_zero, List.drop_eq_nil_of_le (by lia)]
end
section
variable {X : Cx} {pins : List (Addr × Obj)} {σ : St} {H : Hp} {s : Shared} {h' : Heap}
end
noncomputable def Ite (K : PySem.W.Frag) (a : Addr) : It :=
 ⟨fun i H => ∃ xs x, SqL K H a xs ∧ xs[i]? = some x, fun i H x H' => ∃ p y, x = .ref p ∧ H p = none ∧ H' = upd H p (.tup [.int (i : Int), y]) ∧ ∀ xs, SqL K H a xs → xs[i]? = some y, fun i H => ∃ xs, SqL K H a xs ∧ xs.length ≤ i⟩
section
variable {X : Cx}
noncomputable def DY (K : PySem.W.Frag) (ta : TA) : TI := fun σ H R => ta σ H fun vs H1 => ∃ a, vs = [.ref a] ∧ (∃ xs, SqL K H1 a xs) ∧ R (Ite K a) H1
theorem OV : bootBuiltins "all" = some (.builtin "all") := by decide +kernel
noncomputable def FU (K : PySem.W.Frag) : List V → Hp → VK → Prop := fun xs H Q => ∃ a, xs = [.ref a] ∧ ∃ ys : List Bool, SqL K H a (ys.map V.bl) ∧ Q (.bl (ys.all id)) H
theorem Jt (hc : X.calm = true) : BF X (.builtin "all") (FU X.K) := by
 intro pins s σ H xs us Q I r h
 obtain ⟨a, rfl, ys, hq, q⟩ := h
 obtain ⟨u, rfl, rx⟩ := vals1 r
 cases rx
 obtain ⟨its, r', pl, hz⟩ := I.list hq
 have hlen := r'.length
 rw [List.length_map] at hlen
 have hlt : a < s.heap.objs.size := by obtain ⟨o, n, e, _⟩ := id pl; exact Heap.lt_size e
 refine call_all_walk (wpAny_pyIter_list pl.isList ?_)
 refine ⟨s.heap.objs.size, _, _, _, _, _, fun i => ys.getD i true, rfl, Walks.list (A := X.A.in1) (I.ok.hd hc) _ a (Nat.ne_of_lt hlt) its.toArray, ⟨⟨_, Heap.get?_push_size _ rfl, rfl, rfl⟩, pl.isList.at fun o e => Heap.get?_push_of_some _ e⟩, ?_, fun h' tk hk => ?_⟩
 ·intro i v s Q E hP hQ
  have hv : its[i]? = some v := by simpa using hP
  obtain ⟨hi, _⟩ := List.getElem?_eq_some_iff.mp hv
  obtain ⟨u, e1, e2⟩ := r'.get (i := i) (x := V.bl (ys.getD i true)) (by rw [List.getElem?_map, List.getElem?_eq_getElem (by lia), List.getD_eq_getElem?_getD, List.getElem?_eq_getElem (by lia)]; rfl)
  have e3 : v = u := Option.some.inj (hv.symm.trans e1)
  have e2 : u = Value.bool (ys.getD i true) := e2
  rw [e3, e2]
  exact wpAny_truthy_bool hQ
 ·have I2 : Inv X pins σ H { s with heap := h', toks := tk } := I.kept fun b o e => hk b o (fun z => by
   rw [List.mem_singleton.mp z] at e
   exact absurd (Heap.lt_size e) (Nat.lt_irrefl _)) (Heap.get?_push_of_some _ e)
  refine ⟨.bl (ys.all id), H, I2, ?_, q⟩
  show Value.bool _ = Value.bool _
  congr 1
  rw [show its.toArray.size = ys.length by simp [hlen], Bool.eq_iff_iff]
  simp only [List.all_eq_true, List.mem_range, id]
  constructor
  ·intro hh b hb
   obtain ⟨i, hi, rfl⟩ := List.getElem_of_mem hb
   have := hh i hi
   rwa [List.getD_eq_getElem?_getD, List.getElem?_eq_getElem hi] at this
  ·intro hh i hi
   rw [List.getD_eq_getElem?_getD, List.getElem?_eq_getElem hi]
   exact hh _ (List.getElem_mem hi)
end
end L2
namespace TG
open PySem L2
structure G where
 p : Int
 f : Int
 h : Int
noncomputable abbrev G.vs (g : G) : List V := [.int g.p, .int g.f, .int g.h]
structure OkG (g : G) : Prop where
 p0 : -1000 ≤ g.p
 p1 : g.p ≤ 1000
 f0 : -1000 ≤ g.f
 fh : g.f ≤ g.h
 h1 : g.h ≤ 1000
noncomputable def Aa (H : Hp) (as : List Addr) (gs : List G) : Prop := Paired (fun a g => H a = some (.tup (G.vs g))) as gs
theorem Aa.same {H H' : Hp} {as : List Addr} {gs : List G} (h : Aa H as gs) (s : AH H H') : Aa H' as gs := by
 unfold Aa at *
 induction h with
 | nil => exact .nil
 | cons e _ ih => exact .cons (s _ _ e) ih
theorem Aa.snoc {H : Hp} {as : List Addr} {gs : List G} {a : Addr} {g : G} (h : Aa H as gs) (e : H a = some (.tup (G.vs g))) : Aa H (as ++ [a]) (gs ++ [g]) := Paired.snoc h e
theorem Aa.len {H : Hp} {as : List Addr} {gs : List G} (h : Aa H as gs) : as.length = gs.length := Paired.length h
theorem HE {xs : List Int} {i : Int} (h0 : 0 ≤ i) (h1 : i < xs.length) : atI (xs.map V.int) i = some (V.int (xs.getD i.toNat 0)) := by
 obtain ⟨n, rfl⟩ := Int.eq_ofNat_of_zero_le h0
 have hn : n < xs.length := by lia
 refine Gg ?_
 rw [List.getElem?_map, List.getElem?_eq_getElem hn, Int.toNat_natCast, List.getD_eq_getElem?_getD, List.getElem?_eq_getElem hn]; rfl
noncomputable def Go (a b c : G) : Prop := a.h * (c.p - b.p) + c.h * (b.p - a.p) < b.f * (c.p - a.p)
noncomputable def GF (a b c : G) : Prop := b.h * (c.p - a.p) < a.f * (c.p - b.p) + c.f * (b.p - a.p)
instance (a b c : G) : Decidable (Go a b c) := by unfold Go; exact inferInstance
instance (a b c : G) : Decidable (GF a b c) := by unfold GF; exact inferInstance
noncomputable def Bars (a b c : G) : Prop := Go a b c ∨ GF a b c
instance (a b c : G) : Decidable (Bars a b c) := by unfold Bars; exact inferInstance
theorem Aa.zip {H : Hp} {as : List Addr} {gs : List G} (h : Aa H as gs) : ∃ zs : List (Addr × List Int), as = zs.map (·.1) ∧ zs.map (·.2) = gs.map (fun g => [g.p, g.f, g.h]) ∧ ∀ z ∈ zs, z.2 ≠ [] ∧ H z.1 = some (.tup (z.2.map V.int)) := by
 unfold Aa at h
 induction h with
 | nil => exact ⟨[], rfl, rfl, fun _ h => absurd h (by simp)⟩
 | @cons a g as gs e _ ih =>
  obtain ⟨zs, h1, h2, h3⟩ := ih
  refine ⟨(a, [g.p, g.f, g.h]) :: zs, by rw [h1]; rfl, by rw [List.map_cons, h2]; rfl, fun z hz => ?_⟩
  rcases List.mem_cons.mp hz with rfl | hz
  ·exact ⟨by simp, e⟩
  ·exact h3 z hz
theorem Aa.of_zip {H : Hp} : ∀ {zs : List (Addr × List Int)} {gs : List G}, zs.map (·.2) = gs.map (fun g => [g.p, g.f, g.h]) → (∀ z ∈ zs, H z.1 = some (.tup (z.2.map V.int))) → Aa H (zs.map (·.1)) gs
 | [], [], _, _ => .nil
 | [], _ :: _, e, _ => by cases e
 | _ :: _, [], e, _ => by cases e
 | z :: zs, g :: gs, e, h => by
  rw [List.map_cons, List.map_cons, List.cons.injEq] at e
  refine .cons ?_ (Aa.of_zip e.2 fun y hy => h y (List.mem_cons_of_mem _ hy))
  have := h z List.mem_cons_self
  rw [e.1] at this
  exact this
noncomputable def toG (t : List Int) : G := ⟨t.getD 0 0, t.getD 1 0, t.getD 2 0⟩
theorem Kt (gs : List G) : (gs.map fun g => [g.p, g.f, g.h]).map toG = gs := by
 rw [List.map_map]
 have : (toG ∘ fun g : G => [g.p, g.f, g.h]) = id := by funext g; rfl
 rw [this, List.map_id]
theorem lex_p {g g' : G} (hne : g.p ≠ g'.p) (h : HT.lexLt [g.p, g.f, g.h] [g'.p, g'.f, g'.h] = true) : g.p < g'.p := by
 rw [HT.lexLt_cons, if_neg hne] at h
 exact of_decide_eq_true h
noncomputable def Asc (gs : List G) : Prop := gs.Pairwise fun a b => a.p < b.p
section
variable {X : Cx}
noncomputable def Bu (K : PySem.W.Frag) : List V → Hp → VK → Prop := fun xs H Q => ∃ l, xs = [.ref l] ∧ ∃ (as : List Addr) (gs : List G), SqL K H l (as.map V.ref) ∧ Aa H as gs ∧ (gs.map G.p).Nodup ∧ gs.length < 64 ∧
 ∀ (D : Addr) (H' : Hp) (as' : List Addr) (gs' : List G), H D = none → AH H H' → H' D = some (.lst (as'.map V.ref)) → Aa H' as' gs' → gs'.Perm gs → Asc gs' → Q (.ref D) H'
theorem GC : BF X (.builtin "sorted") (Bu X.K) := GQ.weak fun xs H Q ⟨l, e, as, gs, hl, ga, nd, h64, q⟩ => by
 obtain ⟨zs, h1, h2, h3⟩ := ga.zip
 have hlen : zs.length = gs.length := by
  have := congrArg List.length h2
  simpa using this
 refine ⟨l, e, zs, ?_, fun z hz => ⟨(h3 z hz).1, SqT.of (h3 z hz).2⟩, ?_, by lia, fun D H' zs' hD hs hat hp hsrt => ?_⟩
 ·rw [h1, List.map_map] at hl
  exact hl
 ·rw [h2]
  refine List.pairwise_map.mpr ((List.pairwise_map.mp nd).imp fun {a b} h z => h ?_)
  simp at z
  exact z.1
 ·have hm : (zs'.map (·.2)).Perm (gs.map fun g => [g.p, g.f, g.h]) := by rw [← h2]; exact hp.map _
  have hg : ((zs'.map (·.2)).map toG).Perm gs := by
   have := hm.map toG
   rw [Kt] at this
   exact this
  have hback : zs'.map (·.2) = ((zs'.map (·.2)).map toG).map fun g => [g.p, g.f, g.h] := by
   rw [List.map_map]
   conv => lhs; rw [← List.map_id (zs'.map (·.2))]
   refine List.map_congr_left fun t ht => ?_
   obtain ⟨g, _, rfl⟩ := List.mem_map.mp (hm.mem_iff.mp ht)
   rfl
  refine q D H' (zs'.map (·.1)) ((zs'.map (·.2)).map toG) hD hs ?_ ?_ hg ?_
  ·rw [hat, List.map_map]; rfl
  ·exact Aa.of_zip hback fun z hz => hs.get (h3 z (hp.mem_iff.mp hz)).2
  ·have ndp : ((((zs'.map (·.2)).map toG)).map G.p).Nodup := ((hg.map G.p).nodup_iff).mpr nd
   have hsr : (((zs'.map (·.2)).map toG)).Pairwise fun a b => HT.lexLt [a.p, a.f, a.h] [b.p, b.f, b.h] = true := by
    have : ((((zs'.map (·.2)).map toG)).map fun g : G => [g.p, g.f, g.h]).Pairwise fun a b => HT.lexLt a b = true := by
     rw [← hback]
     exact List.pairwise_map.mpr hsrt
    exact List.pairwise_map.mp this
   have hne := List.pairwise_map.mp ndp
   exact (hsr.and hne).imp fun {a b} h => lex_p h.2 h.1
end
theorem EJ : ∀ {xs ys : List G}, Asc xs → Asc ys → xs.Perm ys → xs = ys
 | [], ys, _, _, h => (List.nil_perm.mp h).symm
 | x :: xs, [], _, _, h => absurd h (by intro z; have := z.length_eq; simp at this)
 | x :: xs, y :: ys, h1, h2, h => by
  obtain ⟨a1, a2⟩ := List.pairwise_cons.mp h1
  obtain ⟨b1, b2⟩ := List.pairwise_cons.mp h2
  have e : x = y := by
   have hx : x ∈ y :: ys := h.mem_iff.mp List.mem_cons_self
   have hy : y ∈ x :: xs := h.mem_iff.mpr List.mem_cons_self
   rcases List.mem_cons.mp hx with e | hx
   ·exact e
   ·rcases List.mem_cons.mp hy with e | hy
    ·exact e.symm
    ·have := a1 y hy
     have := b1 x hx
     lia
  subst e
  rw [EJ a2 b2 ((List.perm_cons x).mp h)]
theorem Aa.get {H : Hp} {as : List Addr} {gs : List G} (h : Aa H as gs) {i : Nat} {g : G} (hg : gs[i]? = some g) : ∃ a, as[i]? = some a ∧ H a = some (.tup (G.vs g)) := by
 unfold Aa at h
 induction h generalizing i with
 | nil => simp at hg
 | cons e _ ih =>
  cases i with
  | zero => simp at hg; subst hg; exact ⟨_, rfl, e⟩
  | succ i => exact ih (by simpa using hg)
theorem Ef {as : List Addr} {i : Nat} {a : Addr} (h : as[i]? = some a) : atI (as.map V.ref) (i : Int) = some (V.ref a) := Gg (by rw [List.getElem?_map, h]; rfl)
noncomputable def Pas (a b c d pl f h : Int) : Prop := f * (b * d) ≤ a * d + pl * c * b ∧ a * d + pl * c * b ≤ h * (b * d)
instance (a b c d pl f h : Int) : Decidable (Pas a b c d pl f h) := by unfold Pas; exact inferInstance
theorem Aa.fresh {H : Hp} {as : List Addr} {gs : List G} {D : Addr} {o : HO} (h : Aa H as gs) (hD : ∀ ys, H D ≠ some (.tup ys)) : Aa (L2.upd H D o) as gs := by
 induction h with
 | nil => exact .nil
 | cons e _ ih =>
  refine .cons ?_ ih
  rw [AF (fun z => hD _ (z ▸ e))]
  exact e
theorem HF {K : PySem.W.Frag} {a : Addr} {as : List Addr} {gs : List G} {tc : TT} {caps : St} {D : Addr} {H1 : Hp} {Q : Hp → Prop} (P : G → Bool) (hl : SqL K H1 a (as.map V.ref)) (ga : Aa H1 as gs) (hD : H1 D = none) (hz : gs.length ≤ 1000)
  (ht : ∀ v g H (R : Bool → Hp → Prop), g ∈ gs → AH H1 H → H v = some (.tup (G.vs g)) → R (P g) H → tc (some (.ref v) :: caps) H R)
  (hd : ∀ H as', AH H1 H → H D = some (.lst (as'.map V.ref)) → Aa H as' (gs.filter P) → Q H) : B0 (Dy 0) tc caps (Itl K a) D H1 Q := by
 have la := ga.len
 refine B4 (xs := as.map V.ref) (fun i ys H => ∃ as' : List Addr, ys = as'.map V.ref ∧ AH H1 H ∧ H D = some (.lst ys) ∧ Aa H as' ((gs.take i).filter P) ∧ as'.length ≤ i) ⟨[], rfl, AZ hD, AI, .nil, Nat.le_refl _⟩ (fun _ _ H _ ⟨_, _, s1, _⟩ => s1.seq hl) ?_ ?_
 ·rintro i x ys H hx ⟨as', rfl, s1, e1, g1, l1⟩
  have hi : i < gs.length := by
   have := (List.getElem?_eq_some_iff.mp hx).1
   rw [List.length_map] at this
   lia
  obtain ⟨v, hv, t1⟩ := ga.get (List.getElem?_eq_getElem hi)
  have ex : x = V.ref v := by
   rw [List.getElem?_map, hv] at hx
   exact (Option.some.inj hx).symm
  subst ex
  have et : gs.take (i + 1) = gs.take i ++ [gs[i]] := List.take_succ_eq_append_getElem hi
  refine ht v gs[i] H _ (List.getElem_mem hi) s1 (s1.get t1) ?_
  have hlen : (as.map V.ref).length = gs.length := by rw [List.length_map, la]
  by_cases hp : P gs[i] = true
  ·rw [if_pos hp]
   refine ⟨_, rfl, e1, by rw [List.length_map, PySem.sizeLine_eq]; lia, _, by lia, rfl, by lia, as' ++ [v], by rw [List.map_append]; rfl, s1.updFresh hD, AI, ?_, by rw [List.length_append]; simp; lia⟩
   rw [et, List.filter_append, List.filter_cons, if_pos hp, List.filter_nil]
   exact (g1.snoc (s1.get t1)).fresh (fun ys z => by rw [e1] at z; cases z)
  ·rw [if_neg hp]
   refine ⟨_, by lia, rfl, by lia, as', rfl, s1, e1, ?_, by lia⟩
   rw [et, List.filter_append, List.filter_cons, if_neg hp, List.filter_nil, List.append_nil]
   exact g1
 ·rintro ys H ⟨as', rfl, s1, e1, g1, l1⟩
  rw [List.length_map, la, List.take_length] at g1
  exact hd H as' s1 e1 g1
theorem Paired.get {α β : Type} {F : α → β → Prop} {xs : List α} {ys : List β} (h : Paired F xs ys) {i : Nat} {y : β} (hy : ys[i]? = some y) : ∃ x, xs[i]? = some x ∧ F x y := by
 induction h generalizing i with
 | nil => exact absurd hy (by simp)
 | cons e _ ih =>
  cases i with
  | zero =>
   rw [List.getElem?_cons_zero] at hy ⊢
   cases hy
   exact ⟨_, rfl, e⟩
  | succ i =>
   rw [List.getElem?_cons_succ] at hy ⊢
   exact ih hy
theorem Hx {xs : List V} {i : Nat} : Ff xs none (some (i : Int)) = xs.take i := by
 unfold Ff
 rw [HT.sIx_nat, HT.sIx_none, List.drop_zero, Nat.sub_zero]
 by_cases h : i ≤ xs.length
 ·rw [Nat.min_eq_left h]
 ·rw [Nat.min_eq_right (by lia), List.take_length, List.take_of_length_le (by lia)]
theorem Aa.append {H : Hp} {as bs : List Addr} {gs hs : List G} (h : Aa H as gs) (h' : Aa H bs hs) : Aa H (as ++ bs) (gs ++ hs) := by
 induction h with
 | nil => exact h'
 | cons e _ ih => exact .cons e ih
theorem EX {K : PySem.W.Frag} {a : Addr} {as : List Addr} {gs : List G} {te : TE} {tc : TT} {caps : St} {D : Addr} {H1 : Hp} {Q : Hp → Prop} (P : G → Bool) (f : G → V) (hl : SqL K H1 a (as.map V.ref)) (ga : Aa H1 as gs) (hD : H1 D = none) (hz : gs.length ≤ 1000)
  (ht : ∀ v g H (R : Bool → Hp → Prop), g ∈ gs → AH H1 H → H v = some (.tup (G.vs g)) → R (P g) H → tc (some (.ref v) :: caps) H R)
  (he : ∀ v g H (R : VK), g ∈ gs → AH H1 H → H v = some (.tup (G.vs g)) → R (f g) H → te (some (.ref v) :: caps) H R)
  (hd : ∀ H, AH H1 H → H D = some (.lst ((gs.filter P).map f)) → Q H) : B0 te tc caps (Itl K a) D H1 Q := by
 have la := ga.len
 refine B4 (xs := as.map V.ref) (fun i ys H => ys = ((gs.take i).filter P).map f ∧ AH H1 H ∧ H D = some (.lst ys)) ⟨rfl, AZ hD, AI⟩ (fun _ _ H _ ⟨_, s1, _⟩ => s1.seq hl) ?_ ?_
 ·rintro i x ys H hx ⟨rfl, s1, e1⟩
  have hi : i < gs.length := by
   have := (List.getElem?_eq_some_iff.mp hx).1
   rw [List.length_map] at this
   lia
  obtain ⟨v, hv, t1⟩ := ga.get (List.getElem?_eq_getElem hi)
  have ex : x = V.ref v := by
   rw [List.getElem?_map, hv] at hx
   exact (Option.some.inj hx).symm
  subst ex
  have et : gs.take (i + 1) = gs.take i ++ [gs[i]] := List.take_succ_eq_append_getElem hi
  have hlen : (as.map V.ref).length = gs.length := by rw [List.length_map, la]
  have hle : (((gs.take i).filter P).map f).length ≤ i := by
   rw [List.length_map]
   exact Nat.le_trans (List.length_filter_le _ _) (List.length_take_le _ _)
  refine ht v gs[i] H _ (List.getElem_mem hi) s1 (s1.get t1) ?_
  by_cases hp : P gs[i] = true
  ·rw [if_pos hp]
   refine he v gs[i] H _ (List.getElem_mem hi) s1 (s1.get t1) ?_
   refine ⟨e1, by rw [PySem.sizeLine_eq]; lia, _, by lia, rfl, by lia, ?_, s1.updFresh hD, AI⟩
   rw [et, List.filter_append, List.filter_cons, if_pos hp, List.filter_nil, List.map_append]
   rfl
  ·rw [if_neg hp]
   refine ⟨_, by lia, rfl, by lia, ?_, s1, e1⟩
   rw [et, List.filter_append, List.filter_cons, if_neg hp, List.filter_nil, List.append_nil]
 ·rintro ys H ⟨rfl, s1, e1⟩
  rw [List.length_map, la, List.take_length] at e1
  exact hd H s1 e1
theorem Fx {K : PySem.W.Frag} {a : Addr} {as : List Addr} {gs : List G} {te : TE} {caps : St} {D : Addr} {H1 : Hp} {Q : Hp → Prop} (F : Hp → V → G → Prop) (fs : ∀ H H' v g, AH H H' → F H v g → F H' v g)
  (fd : ∀ H v g xs ys, H D = some (.lst xs) → F H v g → F (L2.upd H D (.lst ys)) v g) (hl : SqL K H1 a (as.map V.ref)) (ga : Aa H1 as gs) (hD : H1 D = none) (hz : gs.length ≤ 1000)
  (he : ∀ v g H (R : VK), g ∈ gs → AH H1 H → H v = some (.tup (G.vs g)) → (∀ y H', AH H H' → F H' y g → R y H') → te (some (.ref v) :: caps) H R)
  (hd : ∀ H ys, AH H1 H → H D = some (.lst ys) → Paired (F H) ys gs → Q H) : B0 te Bw caps (Itl K a) D H1 Q := by
 have la := ga.len
 have hlen : (as.map V.ref).length = gs.length := by rw [List.length_map, la]
 refine B4 (xs := as.map V.ref) (fun i ys H => AH H1 H ∧ H D = some (.lst ys) ∧ Paired (F H) ys (gs.take i)) ⟨AZ hD, AI, .nil⟩ (fun _ _ H _ ⟨s1, _⟩ => s1.seq hl) ?_ ?_
 ·rintro i x ys H hx ⟨s1, e1, pr⟩
  have hi : i < gs.length := by
   have := (List.getElem?_eq_some_iff.mp hx).1
   lia
  obtain ⟨v, hv, t1⟩ := ga.get (List.getElem?_eq_getElem hi)
  have ex : x = V.ref v := by
   rw [List.getElem?_map, hv] at hx
   exact (Option.some.inj hx).symm
  subst ex
  have et : gs.take (i + 1) = gs.take i ++ [gs[i]] := List.take_succ_eq_append_getElem hi
  have hle : ys.length ≤ i := by
   rw [Paired.length pr]
   exact List.length_take_le _ _
  unfold Bw
  dsimp only
  rw [if_pos rfl]
  refine he v gs[i] H _ (List.getElem_mem hi) s1 (s1.get t1) fun y H' s2 fy => ?_
  refine ⟨s2.get e1, by rw [PySem.sizeLine_eq]; lia, _, by lia, rfl, by lia, (s1.trans s2).updFresh hD, AI, ?_⟩
  rw [et]
  have e2 := s2.get e1
  have pr2 := Paired.mapP pr fun v g h => fd _ _ _ _ (ys ++ [y]) e2 (fs _ _ _ _ s2 h)
  have app : ∀ {α β : Type} {F : α → β → Prop} {l : List α} {r : List β} {x : α} {y : β}, Paired F l r → F x y → Paired F (l ++ [x]) (r ++ [y]) := by
   intro α β F l r x y h hxy
   induction h with
   | nil => exact .cons hxy .nil
   | cons h1 _ ih => exact .cons h1 ih
  exact app pr2 (fd _ _ _ _ _ e2 fy)
 ·rintro ys H ⟨s1, e1, pr⟩
  rw [hlen, List.take_length] at pr
  exact hd H ys s1 e1 pr
end TG
namespace L2
open PySem PySem.Spec PyProof.Rows
theorem As.here {P : Program} {w : World} {H : Hp} {h : Heap} {a : Addr} {o : HO} (x : As P w H h a o) : ∃ ob, h.get? a = some ob := by
 cases q : h.get? a with
 | some ob => exact ⟨ob, rfl⟩
 | none =>
  exfalso
  have x' : As P w H h a o := x
  induction o with
  | lst xs => obtain ⟨_, _, _, _, e⟩ := x'; rw [q] at e; cases e
  | tup xs => obtain ⟨_, _, _, o, e, _⟩ := x'; rw [q] at e; cases e
  | dK kvs => obtain ⟨_, _, _, _, o, _, _, e, _⟩ := x'; rw [q] at e; cases e
  | dT kvs => obtain ⟨_, _, _, _, o, _, _, e, _⟩ := x'; rw [q] at e; cases e
  | set S n => obtain ⟨o, _, _, _, e, _⟩ := x'; rw [q] at e; cases e
  | ins C dx fs => obtain ⟨_, _, _, e, _⟩ := x'; rw [q] at e; cases e
  | own b => obtain ⟨o, e⟩ := x'; rw [q] at e; cases e
  | xd fs => obtain ⟨_, ⟨o, _, _, e, _⟩, _⟩ := x'; rw [q] at e; cases e
  | rng lo hi => obtain ⟨_, _, _, e⟩ := x'; rw [q] at e; cases e
  | frz o u ih => exact ih x'.2 x'.2
  | tbl ps => have e : h.get? a = _ := x'; rw [q] at e; cases e
  | met f y => have e : h.get? a = _ := x'; rw [q] at e; cases e
  | ext φ => obtain ⟨_, ⟨o, e⟩, _⟩ := x'; rw [q] at e; cases e
noncomputable def Fly (l : List Env) (hs : Heap) (H' : Hp) (ea : Addr) (cls : Value) (h : Heap) : Prop :=
 ∃ (B : Heap) (a0 : Value), Heap.FlyingW B l ea cls a0 h ∧ (∀ b o, hs.get? b = some o → b ∉ frs l → ∃ o', B.get? b = some o') ∧ ∀ b, H' b ≠ none → ∃ o', B.get? b = some o'
noncomputable def CXE (P : Program) (w : World) : CXT := fun outer H s E e s' => ∃ (ea : Addr) (cls : Value) (H' : Hp), e = .ref ea ∧ s'.os = s.os ∧ AllBare s'.gens ∧ Un (frs outer) [] H H' s.heap s'.heap ∧ HOk P w H' s'.heap ∧ Fly outer s.heap H' ea cls s'.heap ∧ E cls none H'
section
variable {X : Cx} {pins : List (Addr × Obj)} {σ σ1 : St} {H H1 H' : Hp} {s s1 s' : Shared} {h' B : Heap} {ea : Addr} {cls : Value}
theorem Inv.notStack (I : Inv X pins σ H s) {b : Addr} {o : Obj} (e : X.s₀.heap.get? b = some o) (hb : b ∉ X.fs) : b ∉ frs X.stack := fun hm => by
 rcases List.mem_cons.mp (I.stkSub b hm) with z | z
 ·exact absurd (Nat.lt_of_lt_of_le (Heap.lt_size e) I.ok.above) (by rw [z]; exact Nat.lt_irrefl _)
 ·exact hb z
theorem Inv.fly (I1 : Inv X pins σ1 H1 s1) (I : Inv X pins σ H s) (hB : B.StaysIn s.heap) (hB' : B.StaysIn h') (up : s.heap.UpToSlots h')
  (c1 : ∀ b o, s1.heap.get? b = some o → b ∉ frs X.stack → ∃ o', B.get? b = some o') (c2 : ∀ b, H b ≠ none → ∃ o', B.get? b = some o') : Inv X pins σ H { s with heap := h' } := by
 have via : ∀ b o, s.heap.get? b = some o → (∃ o', B.get? b = some o') → h'.get? b = some o := fun b o e ⟨o', eb⟩ => by
  have := hB b o' eb
  rw [e] at this
  cases this
  exact hB' b o eb
 have slot : ∀ b o, X.s₀.heap.get? b = some o → X.H₀ b = none → b ∈ X.fs → b ∉ X.ex → ∃ sl, h'.get? b = some { o with slots := sl } := fun b o e n hb hx => by
  obtain ⟨sl, e1⟩ := I.base.slot b o e n hb hx
  obtain ⟨_, of, hof, hnf⟩ := I.ok.funs.mem hb
  rw [e] at hof
  cases hof
  obtain ⟨sl', e2⟩ := up b _ e1 hnf
  exact ⟨sl', e2⟩
 have cellK : ∀ c v, s.heap.IsCell c v → h'.IsCell c v := fun c v ⟨o, ho, hd⟩ => by
  obtain ⟨sl, e⟩ := up c o ho (fun vs q => by rw [hd] at q; cases q)
  exact ⟨_, e, hd⟩
 refine ⟨I.ok, I.os, I.bare, ⟨fun b o e n hb hx => ?_, slot, I.base.free, fun b o e hx => ?_, I.base.tups, I.base.frzs, I.base.tbls⟩, ?_, fun x c e => ?_, I.free, I.freeC, fun p hp => ?_, fun b u e => ?_, I.len⟩
 ·exact via b o (I.base.keep b o e n hb hx) (c1 b o (I1.base.keep b o e n hb hx) (I.notStack e hb))
 ·by_cases hb : b ∈ X.fs
  ·obtain ⟨sl, q⟩ := slot b o e (I.ok.frf b hb) hb hx
   exact ⟨_, q⟩
  ·obtain ⟨o1, a1⟩ := I1.base.there b o e hx
   obtain ⟨o', eb⟩ := c1 b o1 a1 (I.notStack e hb)
   exact ⟨o', hB' b o' eb⟩
 ·obtain ⟨m, hn, hl⟩ := I.loc
  refine ⟨m, up.ns hn, fun i x v e1 e2 e3 => ?_⟩
  obtain ⟨u, r, l⟩ := hl i x v e1 e2 e3
  refine ⟨u, r, ?_⟩
  rcases l with l | ⟨k, c, e, z⟩
  ·exact .inl l
  ·exact .inr ⟨k, c, e, cellK c _ z⟩
 ·obtain ⟨v, z⟩ := I.cell x c e
  exact ⟨v, cellK c v z⟩
 ·obtain ⟨e, n, ne, nf, d⟩ := I.pin p hp
  refine ⟨via p.1 p.2 e (c1 p.1 p.2 (I1.pin p hp).1 fun hm => ?_), n, ne, nf, d⟩
  rcases List.mem_cons.mp (I.stkSub _ hm) with z | z
  ·exact ne z
  ·exact nf z
 ·refine (I.hok b u e).stay (fun c v hc q => via c v q (c2 c ?_)) (fun _ q => q) fun _ _ q => q
  rcases hc with z | z
  ·rw [z, e]; simp
  ·rw [z]; simp
structure Arr (X : Cx) (pins : List (Addr × Obj)) (σ : St) (ea : Addr) (cls : Value) (H' : Hp) (s' : Shared) : Prop where
 inv : Inv X pins σ H' s'
 fly : ∃ (H1 : Hp) (s1 : Shared), Inv X pins σ H1 s1 ∧ Fly X.stack s1.heap H' ea cls s'.heap
theorem JY {E : XK} {e : Value} (I : Inv X pins σ H s) (h : CXE X.prog X.w X.stack H s E e s') : ∃ ea cls H', e = .ref ea ∧ Arr X pins σ ea cls H' s' ∧ E cls none H' := by
 obtain ⟨ea, cls, H', rfl, os, bare, un, hok, fl, hE⟩ := h
 exact ⟨ea, cls, H', rfl, ⟨I.call' (ch := []) os un hok bare (fun b z => absurd z (by simp)), H, s, I, fl⟩, hE⟩
end
section
variable {P : Program} {w : World} {K : PySem.W.Frag} {mg : Str → Option Value} {base : Heap} {N : List Str} {qual : Str} {scope : Scope} {f : Addr} {cd : Value} {A : Around} {outer : List Env} {s : Shared} {H : Hp} {E : XK}
 {pins : List (Addr × Obj)} {σ : St} {H1 H' : Hp} {s1 s' : Shared} {ea : Addr} {cls : Value} {h' : Heap} {args : List Value}
theorem Nv (a : Arr (Ac (CXE P w) P w K mg base N qual scope f cd A outer s H E) pins σ ea cls H' s') (hE : E cls none H') : (Ac (CXE P w) P w K mg base N qual scope f cd A outer s H E).xe (.ref ea) s' := by
 obtain ⟨I, H1, s1, I1, B, a0, fl, c1, c2⟩ := a
 refine wpAny_leaves_onW (A := A.deeper (envOfC qual scope s.heap.objs.size f cd)) (env := envOfC qual scope s.heap.objs.size f cd) (outer := outer) I.ok.frames rfl fl fun h' fl' up => ?_
 have I2 := Inv.fly I1 I fl.1 fl'.1 up c1 c2
 refine ⟨ea, cls, H', rfl, I2.os, I2.bare, I2.base, I2.hok, ⟨B, a0, fl', fun b o e hb => ?_, c2⟩, hE⟩
 obtain ⟨o1, a1⟩ := I1.base.there b o e (fun z => absurd (show b ∈ ([] : List Addr) from z) (by simp))
 exact c1 b o1 a1 (I.notStack e hb)
theorem Kd (I : Inv (Ac (CXE P w) P w K mg base N qual scope f cd A outer s H E) pins σ H1 s1) (hx : Heap.MadeExcOf s1.heap h' ea cls args) (hE : E cls none H1) : (Ac (CXE P w) P w K mg base N qual scope f cd A outer s H E).xe (.ref ea) { s1 with heap := h' } := by
 have hin : ∀ env ∈ (envOfC qual scope s.heap.objs.size f cd :: outer), ∀ b, env.frame = some b → b ∈ frs (envOfC qual scope s.heap.objs.size f cd :: outer) := fun env he b hb => List.mem_filterMap.mpr ⟨env, he, hb⟩
 have hfun : s1.heap.FunFrames (PySem.W.hideAll s1.heap (frs (envOfC qual scope s.heap.objs.size f cd :: outer))) (envOfC qual scope s.heap.objs.size f cd :: outer) := PySem.W.funFrames_hide I.stack hin
 have c1 : ∀ b o, s1.heap.get? b = some o → b ∉ frs (envOfC qual scope s.heap.objs.size f cd :: outer) → ∃ o', (PySem.W.hideAll s1.heap (frs (envOfC qual scope s.heap.objs.size f cd :: outer))).get? b = some o' := fun b o e hb => ⟨o, PySem.W.hideAll_get _ e hb⟩
 have c2 : ∀ b, H1 b ≠ none → ∃ o', (PySem.W.hideAll s1.heap (frs (envOfC qual scope s.heap.objs.size f cd :: outer))).get? b = some o' := fun b n => by
  cases q : H1 b with
  | none => exact absurd q n
  | some o =>
   obtain ⟨ob, e⟩ := (I.hok b o q).here
   exact ⟨ob, PySem.W.hideAll_get _ e fun z => by rw [I.stkFree b z] at q; cases q⟩
 refine wpAny_leaves_madeW (A := A.deeper (envOfC qual scope s.heap.objs.size f cd)) (s := { s1 with heap := h' }) (env := envOfC qual scope s.heap.objs.size f cd) (outer := outer) I.ok.frames rfl (fun b o q => PySem.W.of_hideAll _ q) hfun hx fun h'' t fl tup tn up => ?_
 have I' : Inv (Ac (CXE P w) P w K mg base N qual scope f cd A outer s H E) pins σ H1 { s1 with heap := h' } := I.kept (t' := s1.toks) hx.keeps
 have I2 := Inv.fly (h' := h'') I I' (fun b o q => hx.keeps b o (PySem.W.of_hideAll _ q)) fl.1 up c1 c2
 refine ⟨ea, cls, H1, rfl, I2.os, I2.bare, I2.base, I2.hok, ⟨_, _, fl, fun b o e hb => ?_, c2⟩, hE⟩
 obtain ⟨o1, a1⟩ := I.base.there b o e (fun z => absurd (show b ∈ ([] : List Addr) from z) (by simp))
 exact c1 b o1 a1 (I.notStack e hb)
theorem Ca : Ba (CXE P w) (Ac (CXE P w) P w K mg base N qual scope f cd A outer s H E) E := fun pins σ H s e s' I h => by
 obtain ⟨ea, cls, H', rfl, arr, hE⟩ := JY I h
 exact Nv arr hE
theorem ownE : PassesOwn (model P w) (Ac (CXE P w) P w K mg base N qual scope f cd A outer s H E).A (Ac (CXE P w) P w K mg base N qual scope f cd A outer s H E).env (Ac (CXE P w) P w K mg base N qual scope f cd A outer s H E).xe := PassesOwn.leaving (Q₁ := fun e s'' => CXE P w outer H s E e s'')
theorem Fun.okX {x qual : Str} {st : Stmt} {f : Addr} {fd : FuncData} {N ps : List Str} {k : Nat} {sp : Sp} (F : Fun K x qual st f fd) (S : AM N ps (AE st)) (len : ∀ vs H Q E, sp vs H Q E → vs.length = ps.length)
  (hbody : ∀ (cdv : Value) (A : Around) (outer : List Env) (s : Shared) (H : Hp) (vs : List V) (Q : VK) (E : XK), A1 k (A.deeper (envOfC qual (AE st) s.heap.objs.size f cdv)) → sp vs H Q E →
   ∃ t, PSs (Ac (CXE P w) P w K mg base N qual (AE st) f cdv A outer s H E) (Af st) t ∧ t { nx := fun _ H' => Q .non H', rt := Q } (start N vs) H) : Ad P w K mg base (CXE P w) (k + 1) f fd ps sp := by
 obtain ⟨oc, od, kV, doc, pm, an, cdv, ct, osl, rfl, lk, hcd⟩ := F.ex
 exact JT lk hcd S len fun A outer s H vs Q E hr hsp => hbody cdv A outer s H vs Q E hr hsp
end
structure DM (K : PySem.W.Frag) (C : Addr) (x qual : Str) (st : Stmt) (ps : List Str) (f : Addr) (fd : FuncData) : Prop where
 F : Fun K x qual st f fd
 mt : JZ K C x f
 b : Binds K fd ps []
noncomputable abbrev bmV : List Value := [.type "ValueError", .type "Exception", .type "BaseException", .type "object"]
noncomputable abbrev Bz (K : PySem.W.Frag) (C : Addr) : Prop := PySem.W.excIn K C bmV "ValueError.__new__" = true
theorem toArr {α : Type} {sl : Array α} {l : List α} (e : sl.toList = l) : sl = l.toArray := by rw [← e]
theorem Bz.rec {K : PySem.W.Frag} {C : Addr} (q : Bz K C) : ∃ (dd : Option Addr) (cd : ClassData) (bm : List Value) (k0 k1 k2 k3 k5 : Option Value),
  K.lookup C = some ⟨.type "type", dd, .cls cd, #[k0, k1, k2, k3, some (.builtin "ValueError.__new__"), k5]⟩ ∧ cd.mro = .ref C :: bm ∧ cd.hasDel = false ∧ PySem.W.tailIn K bmV bm = true ∧ PySem.W.nsOkIn K cd.ns = true ∧ PySem.W.nsIn K cd.ns "__init__" = some none := by
 simp only [Bz, PySem.W.excIn] at q
 repeat' split at q
 all_goals first | exact absurd q Bool.false_ne_true | skip
 next dd cd sl hK mr ll C' bm k0 k1 k2 k3 n k5 e1 e2 =>
  rw [toArr e2] at hK
  simp only [Bool.and_eq_true] at q
  obtain ⟨⟨⟨⟨⟨h1, h2⟩, h3⟩, h4⟩, h5⟩, h6⟩ := q
  have h1 : C' = C := by simpa using h1
  have h2 : n = "ValueError.__new__" := by simpa using h2
  subst h1 h2
  exact ⟨dd, cd, bm, k0, k1, k2, k3, k5, hK, e1, by simpa using h3, h4, h5, by simpa using h6⟩
theorem Bz.own {K : PySem.W.Frag} {C : Addr} {x : Str} {mg : Str → Option Value} {h : Heap} (q : Bz K C) (X : K.In h) (hm : mg x = some (.ref C)) : OwnCls x C bmV "ValueError.__new__" mg h := by
 obtain ⟨dd, cd, bm, k0, k1, k2, k3, k5, hK, e1, e2, e3, e4, e5⟩ := q.rec
 have ns : h.Ns cd.ns (h.nsMap cd.ns) := .of_isNs (PySem.W.isNs_of_in X e4)
 have no : h.nsMap cd.ns "__init__" = none := PySem.W.nsMap_none_of_in X e4 e5
 have tl := PySem.W.tail_of_in X e3
 rcases cd with ⟨a1, a2, a3, a4, a5, a6, a7, a8, a9, a10, a11⟩
 simp only at e1 e2
 subst e1 e2
 exact ⟨hm, bm, a4, a1, a5, a2, a6, a7, a8, a9, a10, dd, k0, k1, k2, k3, k5, _, X _ _ hK, ns, no, tl⟩
noncomputable def LW (X : Cx) (E : XK) : Prop := ∀ (pins : List (Addr × Obj)) (σ : St) (H : Hp) (s : Shared) (h' : Heap) (ea : Addr) (cls : Value) (args : List Value), Inv X pins σ H s → Heap.MadeExcOf s.heap h' ea cls args → E cls none H → X.xe (.ref ea) { s with heap := h' }
theorem C5 {P : Program} {w : World} {K : PySem.W.Frag} {mg : Str → Option Value} {base : Heap} {N : List Str} {qual : Str} {scope : Scope} {f : Addr} {cd : Value} {A : Around} {outer : List Env} {s : Shared} {H : Hp} {E : XK} : LW (Ac (CXE P w) P w K mg base N qual scope f cd A outer s H E) E := fun _ _ _ _ _ _ _ _ I hx hE => Kd I hx hE
section
variable {X : Cx} {E : XK} {x : Str} {C : Addr} {np cpos pos : Pos} {e : Expr} {es : List Expr} {t : TA}
noncomputable def C9 (C : Addr) (E : XK) (t : TA) : TS := fun _ σ H => t σ H fun vs H1 => vs.length ≤ sizeLine ∧ E (.ref C) none H1
theorem Ax (hp : LW X E) (hc : X.calm = true) (q : Bz X.K C) (hg : Gl X x) (hm : X.mg x = some (.ref C)) (ha : PA X (e :: es) t) (hdb : (x == ("__debug__" : Str)) = false := by decide)
  (he : starEach (e :: es) X.env = (false, eval e X.env) :: starEach es X.env := by rfl) (hpl : (backTo cpos (starEach es X.env)).any (·.1) = false := by rfl) :
  PS X (.Raise (some (.Call (.Name x np) (e :: es) [] cpos)) none pos) (C9 C E t) := by
 intro pins s σ H D I h
 obtain ⟨tl, N, nm, q', bs, hdct, sn, sub, ab, col, dd, k0, k1, k2, k3, k5, mN, hC, hN, hni, T⟩ := (Bz.own q I.mod.kin hm).obj
 refine wpAny_Raise_call_subT (C := C) (nm := nm) (q := q') (N := N) (bs := bs) (bm := tl) (hdct := hdct) (sn := sn) (sub := sub) (ab := ab) (col := col) (dd := dd) (k0 := k0) (k1 := k1) (k2 := k2) (k3 := k3) (k5 := k5)
  PySem.F.excBase_ValueError (mN := mN) (T.hasType PySem.F.excBase_ValueError.hasBase) (I.ok.hd hc) (by rw [he]; show (false || (backTo cpos (starEach es X.env)).any (·.1)) = false; rw [hpl]; rfl) hni (CH I hg hm ⟨rfl, ?_⟩ hdb)
 have hs := ha cpos pins s σ H _ I h
 rw [he] at hs ⊢
 refine Calls.evalArgs_plain (thn hs fun us s1 zq => ?_)
 obtain ⟨vs, H1, I1, r, z, hE⟩ := zq
 exact ⟨rfl, by rw [← r.length]; exact z, I1.bk _ _ hC, hN.keeps I1.bk, T.keeps I1.bk, fun h' ea hx => hp pins σ H1 s1 h' ea (.ref C) us I1 hx hE⟩
end
noncomputable def Ej (X : Cx) (N : Value → St → Hp → Prop) : Prop := ∀ (pins : List (Addr × Obj)) (σ : St) (H : Hp) (s : Shared) (e : Value) (s' : Shared), Inv X pins σ H s → CXE X.prog X.w X.stack H s (fun cls _ H' => N cls σ H') e s' → X.xe e s'
section
variable {X : Cx} {k : Nat} {f C : Addr} {fd : FuncData} {ps : List Str} {sp : Sp} {dvs : List V} {ds : List Value} {N : Value → St → Hp → Prop} {x m : Str} {p pos apos : Pos} {e o : Expr} {es : List Expr} {ta : TE} {t : TA}
theorem Ks {pins : List (Addr × Obj)} {σ : St} {H : Hp} {s : Shared} {Q : VK} {us : List Value} {vs : List V} (F : Ad X.prog X.w X.K X.mg X.base (CXE X.prog X.w) k f fd ps sp) (hr : A1 k X.A) (hb : Binds X.K fd ps ds) (hd : AT dvs ds) (hx : Ej X N)
  (I : Inv X pins σ H s) (r : AT vs us) (h : sp (vs ++ dvs) H Q (fun cls _ H' => N cls σ H')) : wpAny (model X.prog X.w) X.A (call (.ref f) us) (EP X pins σ Q) X.xe s := by
 have r2 : AT (vs ++ dvs) (us ++ ds) := r.append hd
 have hl : (us ++ ds).length = ps.length := by rw [← r2.length]; exact F.len _ _ _ _ h
 refine wpAny_call (codeAny_mono (F.run X.A X.stack s H ⟨us, []⟩ (us ++ ds) (vs ++ dvs) Q _ hr I.env0 (hb s us I.kIn hl) r2 h) fun r s' hq => ?_)
 cases r with
 | error e => exact hx pins σ H s e s' I hq
 | ok fl =>
  cases fl with
  | ret u => exact I.after hq
  | next => exact False.elim hq
  | brk => exact False.elim hq
  | cont => exact False.elim hq
noncomputable def Hk (sp : Sp) (dvs : List V) (N : Value → St → Hp → Prop) (t : TA) : TE := fun σ H Q => t σ H fun vs H1 => sp (vs ++ dvs) H1 Q (fun cls _ H' => N cls σ H')
theorem G4 (F : Ad X.prog X.w X.K X.mg X.base (CXE X.prog X.w) k f fd ps sp) (hr : A1 k X.A) (hg : Gl X x) (hm : X.mg x = some (.ref f)) (hk : PySem.W.keepIn X.K (.ref f) = true) (hb : Binds X.K fd ps ds) (hd : AT dvs ds) (hx : Ej X N)
  (ha : PA X (e :: es) t) (hdb : (x == ("__debug__" : Str)) = false := by decide) (he : starEach (e :: es) X.env = (false, eval e X.env) :: starEach es X.env := by rfl) (hpl : (backTo pos (starEach es X.env)).any (·.1) = false := by rfl) :
  PE X (.Call (.Name x p) (e :: es) [] pos) (Hk sp dvs N t) := by
 intro pins s σ H Q I h
 refine wpAny_Call_Name_kw (CH I hg hm ?_ hdb)
 refine PySem.W.callWith_K (h₀ := X.base) I.ok.mod.kin hk (thn (ha pos pins s σ H _ I h) fun us s1 ⟨vs, H1, I1, r, q⟩ => ⟨I1.kIn, ?_⟩) he hpl
 exact Ks F hr hb hd hx I1 r q
end
noncomputable abbrev Cx.caught (X : Cx) (e : Value) (pn : List (Addr × Obj)) : Cx := { X with A := X.A.mark (some e), calm := false, pn := pn, xe := fun _ _ => False }
noncomputable abbrev Cx.trying (X : Cx) (pn : List (Addr × Obj)) (E : Value → Shared → Prop) : Cx := { X with pn := pn, xe := E }
theorem Inv.caught {X : Cx} {pins : List (Addr × Obj)} {σ : St} {H : Hp} {s : Shared} (I : Inv X pins σ H s) (e : Value) : Inv (X.caught e (X.pn ++ pins)) [] σ H s :=
 ⟨⟨I.ok.mod, I.ok.kind, I.ok.glob, I.ok.blt, I.ok.above, I.ok.inj, I.ok.has, I.ok.cab, (fun z => nomatch z), I.ok.frames, I.ok.stk, I.ok.exf, I.ok.bs, I.ok.bsz, I.ok.noex, I.ok.exfs, I.ok.funs, I.ok.frf⟩, I.os, I.bare, I.base, I.loc, I.cell, I.free, I.freeC, fun p hp => I.pin p (by simpa using hp), I.hok, I.len⟩
theorem Inv.uncaught {X : Cx} {pins : List (Addr × Obj)} {σ : St} {H : Hp} {s : Shared} {e : Value} (ok : X.Ok) (I : Inv (X.caught e (X.pn ++ pins)) [] σ H s) : Inv X pins σ H s :=
 ⟨ok, I.os, I.bare, I.base, I.loc, I.cell, I.free, I.freeC, fun p hp => I.pin p (by simpa using hp), I.hok, I.len⟩
theorem Inv.trying {X : Cx} {pins : List (Addr × Obj)} {σ : St} {H : Hp} {s : Shared} (I : Inv X pins σ H s) (E : Value → Shared → Prop) : Inv (X.trying (X.pn ++ pins) E) [] σ H s :=
 ⟨⟨I.ok.mod, I.ok.kind, I.ok.glob, I.ok.blt, I.ok.above, I.ok.inj, I.ok.has, I.ok.cab, I.ok.hd, I.ok.frames, I.ok.stk, I.ok.exf, I.ok.bs, I.ok.bsz, I.ok.noex, I.ok.exfs, I.ok.funs, I.ok.frf⟩, I.os, I.bare, I.base, I.loc, I.cell, I.free, I.freeC, fun p hp => I.pin p (by simpa using hp), I.hok, I.len⟩
theorem Inv.tried {X : Cx} {pins more : List (Addr × Obj)} {σ : St} {H : Hp} {s : Shared} {E : Value → Shared → Prop} (ok : X.Ok) (I : Inv (X.trying (X.pn ++ pins) E) more σ H s) : Inv X pins σ H s :=
 ⟨ok, I.os, I.bare, I.base, I.loc, I.cell, I.free, I.freeC, fun p hp => I.pin p (List.mem_append_left _ hp), I.hok, I.len⟩
noncomputable def tHs (K : PySem.W.Frag) : List (Value × TS) → Value → DC → St → Hp → Prop
 | [], _, _, _, _ => False
 | (c, th) :: r, cls, D, σ, H => ∃ b, PySem.W.exmOne K cls c = some b ∧ if b = true then th D σ H else tHs K r cls D σ H
inductive PHs (X : Cx) : List ExceptHandler → List (Value × TS) → Prop
 | nil : PHs X [] []
 | cons {x : Str} {c : Value} {np pos : Pos} {b₀ : Stmt} {suite : List Stmt} {th : TS} {hs : List ExceptHandler} {ths : List (Value × TS)} (hg : Gl X x) (hm : X.mg x = some c) (hd : (x == ("__debug__" : Str)) = false)
   (hb : ∀ e pn, PSs (X.caught e pn) (b₀ :: suite) th) (r : PHs X hs ths) : PHs X (.ExceptHandler (some (.Name x np)) none (b₀ :: suite) pos :: hs) ((c, th) :: ths)
section
variable {X : Cx} {pins : List (Addr × Obj)} {D : DC}
theorem SP.map {X Y : Cx} {pins pins' : List (Addr × Obj)} {D : DC} {f : Flow} {s : Shared} (k : ∀ σ H, Inv X pins σ H s → Inv Y pins' σ H s) (h : SP X pins D f s) : SP Y pins' D f s := by
 cases f with
 | next => obtain ⟨σ, H, I, q⟩ := h; exact ⟨σ, H, k _ _ I, q⟩
 | brk => obtain ⟨σ, H, I, q⟩ := h; exact ⟨σ, H, k _ _ I, q⟩
 | cont => obtain ⟨σ, H, I, q⟩ := h; exact ⟨σ, H, k _ _ I, q⟩
 | ret u => obtain ⟨v, σ, H, I, r, q⟩ := h; exact ⟨v, σ, H, k _ _ I, r, q⟩
theorem FF (hfr : X.env.frame = some X.env.locals) (hst : X.stack = X.env :: X.outer) {ea : Addr} {cls : Value} : ∀ {hs : List ExceptHandler} {ths : List (Value × TS)}, PHs X hs ths → ∀ {σ : St} {H : Hp} {s : Shared}, Arr X pins σ ea cls H s → tHs X.K ths cls D σ H →
  wpAny (model X.prog X.w) X.A (handleBy (.ref ea) X.env hs) (SP X pins D) X.xe s
 | _, _, .nil, _, _, _, _, h => h.elim
 | _, _, .cons (x := x) (c := c) (b₀ := b₀) (suite := suite) (th := th) hg hm hd hb r, σ, H, s, a, h => by
  obtain ⟨I, H1, s1, I1, B, a0, fl, c1, c2⟩ := a
  obtain ⟨b, hx, hq⟩ := h
  refine wpAny_handleBy_cons ?_ (by intro q; cases q)
  refine codeAny_handlers_test ?_
  have Ic := I.caught (.ref ea)
  refine CH (X := X.caught (.ref ea) (X.pn ++ pins)) Ic hg hm ?_ hd
  obtain ⟨ob, hob, hc⟩ := fl.there
  have LT : PySem.W.Looks (model X.prog X.w) s.heap (typeOf (.ref ea)) cls := by
   subst hc
   exact (PySem.W.Looks.ld hob).andThen .now
  refine (PySem.W.exm_one I.kIn LT hx).here ?_
  cases b with
  | false =>
   exact FF hfr hst r ⟨I, H1, s1, I1, B, a0, fl, c1, c2⟩ (by simpa using hq)
  | true =>
   rw [if_pos rfl] at hq
   refine codeAny_handlers_suite ?_
   refine lands_againW fl fun h6 fl6 up6 => ?_
   have I6 : Inv X pins σ H { s with heap := h6 } := Inv.fly I1 I fl.1 fl6.1 up6 c1 c2
   refine Ag (thn (hb (.ref ea) (X.pn ++ pins) [] _ σ H D (I6.caught _) hq) fun f s2 h2 => ?_)
   exact SP.map (fun _ _ J => J.uncaught I.ok) h2
noncomputable def lookX (X : Cx) (pins : List (Addr × Obj)) (D : DC) (hs : List ExceptHandler) : Value → Shared → Prop := fun e s1 => wpAny (model X.prog X.w) X.A (noteFrame e X.env) (fun _ s2 => wpAny (model X.prog X.w) X.A (setFlight e none) (fun _ s3 =>
 wpAny (model X.prog X.w) X.A (handleBy e X.env hs) (SP X pins D) X.xe s3) X.xe s2) X.xe s1
noncomputable def tTry (K : PySem.W.Frag) (tb : (Value → St → Hp → Prop) → TS) (ths : List (Value × TS)) : TS := fun D σ H => tb (fun cls σ' H' => tHs K ths cls D σ' H') D σ H
theorem OQ {body : List Stmt} {h₀ : ExceptHandler} {hs : List ExceptHandler} {ths : List (Value × TS)} {tb : (Value → St → Hp → Prop) → TS} {pos : Pos} (hfr : X.env.frame = some X.env.locals) (hst : X.stack = X.env :: X.outer)
  (hb : ∀ N pn xe, Ej (X.trying pn xe) N → PSs (X.trying pn xe) body (tb N)) (hh : PHs X (h₀ :: hs) ths) : PS X (.Try body (h₀ :: hs) [] [] pos) (tTry X.K tb ths) := by
 intro pins s σ H D I h
 refine wpAny_Try_except ?_
 have pass : Ej (X.trying (X.pn ++ pins) (lookX X pins D (h₀ :: hs))) (fun cls σ' H' => tHs X.K ths cls D σ' H') := fun pins' σ' H1 s1 e s' I' hx => by
  obtain ⟨ea, cls, H', rfl, a, hN⟩ := JY I' hx
  obtain ⟨J, H2, s2, J2, B, a0, fl, c1, c2⟩ := a
  have J' : Inv X pins σ' H' s' := J.tried I.ok
  have J2' : Inv X pins σ' H2 s2 := J2.tried I.ok
  have fl : Heap.FlyingW B X.stack ea cls a0 s'.heap := fl
  have c1 : ∀ b o, s2.heap.get? b = some o → b ∉ frs X.stack → ∃ o', B.get? b = some o' := c1
  rw [hst] at fl
  refine wpAny_looks_onW (A := X.A) (by rw [I.ok.frames, hst]) hfr fl fun h4 held4 up4 => ?_
  refine wpAny_landsW held4 fun h5 fl5 up5 => ?_
  have up := up4.trans up5
  have I5 : Inv X pins σ' H' { s' with heap := h5 } := Inv.fly J2' J' fl.1 fl5.1 up c1 c2
  refine FF hfr hst hh ⟨I5, H2, s2, J2', B, a0, by rw [hst]; exact fl5, c1, c2⟩ hN
 refine wpAny_mono (hb _ _ _ pass [] s σ H D (I.trying _) h) (fun f s1 h1 => ?_) fun e s1 h1 => h1
 have h1 : SP X pins D f s1 := SP.map (fun _ _ J => J.tried I.ok) h1
 cases f with
 | next => exact wpAny_execs_nil h1
 | brk => exact h1
 | cont => exact h1
 | ret u => exact h1
end
section
variable {X : Cx}
end
theorem len0 {α : Type} {us : List α} (h : us.length = 0) : us = [] := List.length_eq_zero_iff.mp h
theorem JD {α : Type} {us : List α} {n : Nat} (h : us.length = n + 1) : ∃ a r, us = a :: r ∧ r.length = n := by
 cases us with
 | nil => cases h
 | cons a r => exact ⟨a, r, rfl, Nat.succ.inj h⟩
theorem LA {α : Type} {us : List α} (h : us.length = 1) : ∃ a, us = [a] := by
 obtain ⟨a, r, rfl, h'⟩ := JD h; cases len0 h'; exact ⟨a, rfl⟩
theorem Lk {α : Type} {us : List α} (h : us.length = 2) : ∃ a b, us = [a, b] := by
 obtain ⟨a, r, rfl, h'⟩ := JD h; obtain ⟨b, rfl⟩ := LA h'; exact ⟨a, b, rfl⟩
theorem Nk {α : Type} {us : List α} (h : us.length = 3) : ∃ a b c, us = [a, b, c] := by
 obtain ⟨a, r, rfl, h'⟩ := JD h; obtain ⟨b, c, rfl⟩ := Lk h'; exact ⟨a, b, c, rfl⟩
theorem len4 {α : Type} {us : List α} (h : us.length = 4) : ∃ a b c d, us = [a, b, c, d] := by
 obtain ⟨a, r, rfl, h'⟩ := JD h; obtain ⟨b, c, d, rfl⟩ := Nk h'; exact ⟨a, b, c, d, rfl⟩
theorem len5 {α : Type} {us : List α} (h : us.length = 5) : ∃ a b c d e, us = [a, b, c, d, e] := by
 obtain ⟨a, r, rfl, h'⟩ := JD h; obtain ⟨b, c, d, e, rfl⟩ := len4 h'; exact ⟨a, b, c, d, e, rfl⟩
theorem len6 {α : Type} {us : List α} (h : us.length = 6) : ∃ a b c d e f, us = [a, b, c, d, e, f] := by
 obtain ⟨a, r, rfl, h'⟩ := JD h; obtain ⟨b, c, d, e, f, rfl⟩ := len5 h'; exact ⟨a, b, c, d, e, f, rfl⟩
end L2
namespace TG
open PySem L2
inductive Err where
 | nogate | taken | upside | bounds | full | deeds | nothing | badlist | few | size | badthrow | badrow
 deriving DecidableEq
noncomputable def Kp (b P : Addr) (H H' : Hp) : Prop := ∀ a u, a ≠ b → a ≠ P → H a = some u → H' a = some u
theorem Kp.of {b P : Addr} {H H' : Hp} (s : AH H H') : Kp b P H H' := fun a u _ _ e => s a u e
theorem Kp.trans {b P : Addr} {H H1 H2 : Hp} (k : Kp b P H H1) (k' : Kp b P H1 H2) : Kp b P H H2 := fun a u h1 h2 e => k' a u h1 h2 (k a u h1 h2 e)
theorem Kp.upd {b P a : Addr} {H H1 : Hp} {o : HO} (k : Kp b P H H1) (h : a = b ∨ a = P) : Kp b P H (L2.upd H1 a o) := fun c u h1 h2 e => by
 have hc : c ≠ a := by rcases h with rfl | rfl <;> assumption
 rw [AF hc]
 exact k c u h1 h2 e
noncomputable def KF (H : Hp) (l : Addr) (gs : List G) : Prop := ∃ as : List Addr, H l = some (.lst (as.map V.ref)) ∧ Aa H as gs
structure Std (gs : List G) : Prop where
 asc : Asc gs
 ok : ∀ g ∈ gs, OkG g
 len : gs.length ≤ 40
theorem JC {gs : List G} (h : Asc gs) : (gs.map G.p).Nodup := by
 unfold List.Nodup
 rw [List.pairwise_map]
 exact h.imp fun {a b} h z => by lia
theorem Std.nd {gs : List G} (h : Std gs) : (gs.map G.p).Nodup := JC h.asc
structure Bch (C : Addr) (H : Hp) (b S P : Addr) (ow : List Addr) (gs : List G) (past : List (List G)) : Prop where
 at_ : ∃ dx, H b = some (.ins C dx [("standing", .ref S), ("past", .ref P)])
 st : KF H S gs
 pa : ∃ ps : List Addr, H P = some (.lst (ps.map V.ref)) ∧ Paired (KF H) ps past ∧ (∀ p ∈ ps, p ∈ ow ∧ p ≠ P)
 sp : S ≠ P
 so : S ∈ ow
 po : P ∈ ow
 std : Std gs
 stds : ∀ x ∈ past, Std x
 len : past.length ≤ 300
 lv : ∀ a ∈ ow, ∃ xs, H a = some (.lst xs)
theorem Aa.keep {H H' : Hp} {as : List Addr} {gs : List G} (h : Aa H as gs) (k : ∀ a xs, H a = some (.tup xs) → H' a = some (.tup xs)) : Aa H' as gs := by
 unfold Aa at *
 induction h with
 | nil => exact .nil
 | cons e _ ih => exact .cons (k _ _ e) ih
theorem KF.keep {H H' : Hp} {l : Addr} {gs : List G} (h : KF H l gs) (kl : ∀ u, H l = some u → H' l = some u) (k : ∀ a xs, H a = some (.tup xs) → H' a = some (.tup xs)) : KF H' l gs := by
 obtain ⟨as, e, g⟩ := h
 exact ⟨as, kl _ e, g.keep k⟩
theorem Paired.keepM {α β : Type} {F F' : α → β → Prop} : ∀ {xs : List α} {ys : List β}, Paired F xs ys → (∀ x y, x ∈ xs → F x y → F' x y) → Paired F' xs ys
 | _, _, .nil, _ => .nil
 | _, _, .cons e r, k => .cons (k _ _ List.mem_cons_self e) (Paired.keepM r fun x y h => k x y (List.mem_cons_of_mem _ h))
theorem Paired.takeP {α β : Type} {F : α → β → Prop} : ∀ {xs : List α} {ys : List β}, Paired F xs ys → ∀ n, Paired F (xs.take n) (ys.take n)
 | _, _, .nil, n => by simp only [List.take_nil]; exact .nil
 | _, _, .cons e r, 0 => .nil
 | _, _, .cons e r, n + 1 => .cons e (Paired.takeP r n)
theorem Bch.keep {C : Addr} {H H' : Hp} {b S P : Addr} {ow : List Addr} {gs : List G} {past : List (List G)} (h : Bch C H b S P ow gs past) (k : ∀ a u, (a = b ∨ a ∈ ow ∨ ∃ xs, u = .tup xs) → H a = some u → H' a = some u) : Bch C H' b S P ow gs past := by
 have kt : ∀ a xs, H a = some (.tup xs) → H' a = some (.tup xs) := fun a xs e => k a _ (.inr (.inr ⟨xs, rfl⟩)) e
 obtain ⟨dx, e⟩ := h.at_
 obtain ⟨ps, e2, pr, hm⟩ := h.pa
 exact ⟨⟨dx, k _ _ (.inl rfl) e⟩, h.st.keep (fun u e => k _ u (.inr (.inl h.so)) e) kt, ⟨ps, k _ _ (.inr (.inl h.po)) e2, Paired.keepM pr fun x y hx q => q.keep (fun u e => k _ u (.inr (.inl (hm x hx).1)) e) kt, hm⟩, h.sp, h.so, h.po, h.std, h.stds, h.len, fun a ha => (h.lv a ha).imp fun xs e => k a _ (.inr (.inl ha)) e⟩
theorem Bch.same {C : Addr} {H H' : Hp} {b S P : Addr} {ow : List Addr} {gs : List G} {past : List (List G)} (h : Bch C H b S P ow gs past) (s : AH H H') : Bch C H' b S P ow gs past := h.keep fun a u _ e => s a u e
noncomputable def Co (gs : List G) (p : Int) (o : List G) : List G := (gs.filter fun g => decide (g.p < p)) ++ (o ++ (gs.filter fun g => decide (p < g.p)))
theorem J0 {gs : List G} {p : Int} {o : List G} (h : Asc gs) (ho : Asc o) (hp : ∀ g ∈ o, g.p = p) : Asc (Co gs p o) := by
 unfold Co Asc at *
 refine List.pairwise_append.mpr ⟨h.filter _, List.pairwise_append.mpr ⟨ho, h.filter _, fun a ha b hb => ?_⟩, fun a ha b hb => ?_⟩
 ·have := of_decide_eq_true (List.mem_filter.mp hb).2
  rw [hp a ha]; exact this
 ·have h1 := of_decide_eq_true (List.mem_filter.mp ha).2
  rcases List.mem_append.mp hb with z | z
  ·rw [hp b z]; exact h1
  ·have := of_decide_eq_true (List.mem_filter.mp z).2
   lia
theorem Jd {gs : List G} {p : Int} {o : List G} {g : G} : g ∈ Co gs p o ↔ (g ∈ gs ∧ g.p ≠ p) ∨ g ∈ o := by
 unfold Co
 simp only [List.mem_append, List.mem_filter, decide_eq_true_eq]
 constructor
 ·rintro (⟨h, q⟩ | h | ⟨h, q⟩)
  ·exact .inl ⟨h, by lia⟩
  ·exact .inr h
  ·exact .inl ⟨h, by lia⟩
 ·rintro (⟨h, q⟩ | h)
  ·rcases Int.lt_or_gt_of_ne q with z | z
   ·exact .inl ⟨h, z⟩
   ·exact .inr (.inr ⟨h, z⟩)
  ·exact .inr (.inl h)
theorem EA {gs : List G} {p : Int} {o : List G} : (Co gs p o).Perm ((gs.filter fun g => !decide (g.p = p)) ++ o) := by
 unfold Co
 have h : ((gs.filter fun g => decide (g.p < p)) ++ (gs.filter fun g => decide (p < g.p))).Perm (gs.filter fun g => !decide (g.p = p)) := by
  induction gs with
  | nil => exact List.Perm.refl _
  | cons a gs ih =>
   simp only [List.filter_cons]
   rcases Int.lt_trichotomy a.p p with z | z | z
   ·simp only [decide_eq_true z, show decide (p < a.p) = false from decide_eq_false (by lia), show decide (a.p = p) = false from decide_eq_false (by lia), if_true, Bool.not_false, Bool.false_eq_true, if_false, List.cons_append]
    exact ih.cons _
   ·simp only [show decide (a.p < p) = false from decide_eq_false (by lia), show decide (p < a.p) = false from decide_eq_false (by lia), decide_eq_true z, Bool.not_true, Bool.false_eq_true, if_false]
    exact ih
   ·simp only [show decide (a.p < p) = false from decide_eq_false (by lia), decide_eq_true z, show decide (a.p = p) = false from decide_eq_false (by lia), if_true, Bool.not_false, Bool.false_eq_true, if_false]
    exact List.perm_middle.trans (ih.cons _)
 exact (List.perm_append_comm_assoc _ _ _).trans ((h.append_left o).trans List.perm_append_comm)
theorem G1 {gs : List G} {p : Int} {o : List G} : (Co gs p o).length = (gs.filter fun g => !decide (g.p = p)).length + o.length := by
 rw [EA.length_eq, List.length_append]
noncomputable abbrev Ez (gs : List G) : List Int := gs.map G.p
noncomputable abbrev InB (x : Int) : Prop := -1000 ≤ x ∧ x ≤ 1000
noncomputable def Ft (p f h : Int) : Option Err := if h < f then some .upside else if InB p ∧ InB f ∧ InB h then none else some .bounds
theorem E4 {p f h : Int} : Ft p f h = none ↔ OkG ⟨p, f, h⟩ := by
 unfold Ft
 constructor
 ·intro z
  split at z
  ·cases z
  ·split at z
   ·rename_i h1 h2
    obtain ⟨⟨a, b⟩, ⟨c, d⟩, e, f1⟩ := h2
    exact ⟨a, b, c, by show f ≤ h; lia, f1⟩
   ·cases z
 ·rintro ⟨a, b, c, d, e⟩
  rw [if_neg (by simp only at *; lia), if_pos (by simp only at *; unfold InB; lia)]
noncomputable def Es (gs : List G) (past : List (List G)) (p f h : Int) : Option Err :=
 if p ∈ Ez gs then some .taken else (Ft p f h).or (if 40 ≤ gs.length then some .full else if 300 ≤ past.length then some .deeds else none)
noncomputable def Ek (past : List (List G)) (n : Int) : Option Err := if n < 1 then some .bounds else if past.length < n then some .nothing else none
theorem Std.put {gs : List G} {p f h : Int} (s : Std gs) (ok : OkG ⟨p, f, h⟩) (hl : (gs.filter fun g => !decide (g.p = p)).length < 40) : Std (Co gs p [⟨p, f, h⟩]) where
 asc := J0 s.asc (List.pairwise_singleton ..) fun g hg => by rw [List.mem_singleton.mp hg]
 ok := fun g hg => by
  rcases Jd.mp hg with z | z
  ·exact s.ok g z.1
  ·rw [List.mem_singleton.mp z]; exact ok
 len := by rw [G1]; simp only [List.length_singleton]; lia
theorem Jf {gs : List G} {p : Int} (hp : p ∉ Ez gs) : (gs.filter fun x => !decide (x.p = p)) = gs :=
 List.filter_eq_self.mpr fun g hg => by
  rw [decide_eq_false (fun z => hp (List.mem_map.mpr ⟨g, hg, z⟩))]; rfl
theorem Bch.off {C : Addr} {H : Hp} {b S P : Addr} {ow : List Addr} {gs : List G} {past : List (List G)} (h : Bch C H b S P ow gs past) {a : Addr} (n : H a = none) : a ∉ ow := fun z => by
 obtain ⟨_, e⟩ := h.lv a z
 rw [n] at e; cases e
theorem Bch.nep {C : Addr} {H : Hp} {b S P : Addr} {ow : List Addr} {gs : List G} {past : List (List G)} (h : Bch C H b S P ow gs past) {a : Addr} {u : HO} (e : H a = some u) (hu : ∀ xs, u ≠ .lst xs) : a ≠ P := fun z => by
 obtain ⟨_, e', _⟩ := h.pa
 rw [z, e'] at e; exact hu _ (Option.some.inj e).symm
theorem Bch.neb {C : Addr} {H : Hp} {b S P : Addr} {ow : List Addr} {gs : List G} {past : List (List G)} (h : Bch C H b S P ow gs past) {a : Addr} {u : HO} (e : H a = some u) (hu : ∀ C dx fs, u ≠ .ins C dx fs) : a ≠ b := fun z => by
 obtain ⟨_, e'⟩ := h.at_
 rw [z, e'] at e; exact hu _ _ _ (Option.some.inj e).symm
theorem Bch.tup {C : Addr} {H H' : Hp} {b S P : Addr} {ow : List Addr} {gs : List G} {past : List (List G)} (h : Bch C H b S P ow gs past) (k : Kp b P H H') {a : Addr} {xs : List V} (e : H a = some (.tup xs)) : H' a = some (.tup xs) :=
 k a _ (h.neb e fun _ _ _ z => by cases z) (h.nep e fun _ z => by cases z) e
theorem IN {p : Int} : ∀ l : List Int, inV (.int p) (l.map V.int) = decide (p ∈ l)
 | [] => rfl
 | a :: l => by
  show (eqV (.int a) (.int p) || inV (.int p) (l.map V.int)) = _
  rw [IN l]
  have e : eqV (.int a) (.int p) = decide (p = a) := by
   show decide (a = p) = decide (p = a)
   exact decide_eq_decide.mpr eq_comm
  rw [e, ← Bool.decide_or]
  exact decide_eq_decide.mpr List.mem_cons.symm
theorem J1 (l : List Int) : (l.map V.int).all Dm = true := by
 rw [List.all_eq_true]
 intro x hx
 obtain ⟨i, _, rfl⟩ := List.mem_map.mp hx
 rfl
theorem Jv {gs : List G} : (gs.filter fun _ => true) = gs := List.filter_eq_self.mpr fun _ _ => rfl
end TG
namespace L2
open PySem PySem.Spec PyProof.Rows
section
variable {prog : Program} {w : World} {A : Around} {E : Value → Shared → Prop} {s : Shared}
end
section
variable {X : Cx} {pos : Pos}
noncomputable def Gj (K : PySem.W.Frag) (n : Nat) (t : TGs) : TG := fun v σ H Q => ∃ a xs, v = .ref a ∧ SqL K H a xs ∧ xs.length = n ∧ t xs σ H Q
noncomputable def CC : List V → Hp → VK → Prop := fun vs H Q => ∃ b more, vs = [.ref b] ∧ H b = some (.dK more) ∧ ∀ p H', H p = none → AH H H' → H' p = some (.dK more) → Q (.ref p) H'
end
theorem KB {X : Cx} : Ba (CXE X.prog X.w) X E0 := fun _ _ _ _ _ _ _ ⟨_, _, _, _, _, _, _, _, _, h⟩ => h.elim
structure NA (K : PySem.W.Frag) (x qual : Str) (st : Stmt) (f : Addr) (fd : FuncData) : Prop where
 ex : ∃ (dV oc : Value) (od : Option Addr) (kV doc pm : Value) (an : Option Addr) (cdv ct : Value) (osl : Array (Option Value)),
  fd = PySem.W.fnOf x qual (Ao st) (Af st) (AE st) dV kV doc pm an cdv ct ∧ K.lookup f = some ⟨oc, od, .func fd, osl⟩ ∧ PySem.W.codeIn K cdv qual = true
 kp : PySem.W.keepIn K (.ref f) = true
theorem NA.okX {P : Program} {w : World} {K : PySem.W.Frag} {mg : Str → Option Value} {base : Heap} {x qual : Str} {st : Stmt} {f : Addr} {fd : FuncData} {N ps : List Str} {k : Nat} {sp : Sp} (F : NA K x qual st f fd) (S : AM N ps (AE st)) (len : ∀ vs H Q E, sp vs H Q E → vs.length = ps.length)
  (hbody : ∀ (cdv : Value) (A : Around) (outer : List Env) (s : Shared) (H : Hp) (vs : List V) (Q : VK) (E : XK), A1 k (A.deeper (envOfC qual (AE st) s.heap.objs.size f cdv)) → sp vs H Q E →
   ∃ t, PSs (Ac (CXE P w) P w K mg base N qual (AE st) f cdv A outer s H E) (Af st) t ∧ t { nx := fun _ H' => Q .non H', rt := Q } (start N vs) H) : Ad P w K mg base (CXE P w) (k + 1) f fd ps sp := by
 obtain ⟨dV, oc, od, kV, doc, pm, an, cdv, ct, osl, rfl, lk, hcd⟩ := F.ex
 exact JT lk hcd S len fun A outer s H vs Q E hr hsp => hbody cdv A outer s H vs Q E hr hsp
structure DMD (K : PySem.W.Frag) (C : Addr) (x qual : Str) (st : Stmt) (ps : List Str) (f : Addr) (fd : FuncData) (dvs : List V) : Prop where
 F : NA K x qual st f fd
 mt : JZ K C x f
 b : Binds K fd ps []
 bd : ∃ ds, AT dvs ds ∧ Binds K fd ps ds
end L2
namespace TG
open PySem L2
end TG
namespace L2
open PySem PySem.Spec PyProof.Rows
section
variable {X : Cx}
noncomputable def Dg : List V → Hp → VK → Prop := fun xs H Q => ∃ i j k, xs = [.int i, .int j, .int k] ∧ ∀ m, (∀ b, m ≤ b ↔ i ≤ b ∧ j ≤ b ∧ k ≤ b) → Q (.int m) H
end
end L2
namespace TG
open PySem L2
open PySem.W PySem.Calls
noncomputable def DL (tb : String → Option Builtin) (p : Program) (w : World) (n₀ : Nat) (ann : Option Value) : Nat → SharedT → Thread → Option SharedT
 | 0, _, _ => none
 | n + 1, s, t => match through t with
  | true => some s
  | false => match stepOk n₀ ann t with
   | false => none
   | true => match stepT (denote tb) p w s t with
    | some (s', t') => DL tb p w n₀ ann n s' t'
    | none => none
theorem FH {tb : String → Option Builtin} {p : Program} {w : World} {n₀ : Nat} {ann : Option Value} : ∀ {n : Nat} {s s' : SharedT} {t : Thread}, DL tb p w n₀ ann n s t = some s' → topRun tb p w n₀ ann n s.abs t = some s'.abs
 | 0, _, _, _, h => by cases h
 | n + 1, s, s', t, h => by
  unfold DL at h
  unfold topRun
  cases he : through t with
  | true => rw [he] at h; cases h; rfl
  | false =>
   rw [he] at h
   cases hk : stepOk n₀ ann t with
   | false => rw [hk] at h; cases h
   | true =>
    rw [hk] at h
    cases hs : stepT (denote tb) p w s t with
    | none => rw [hs] at h; cases h
    | some r => obtain ⟨s₂, t₂⟩ := r; rw [hs] at h; rw [stepT_spec hs]; exact FH h
noncomputable def Kof (as : List Addr) (h : Heap) : Frag := as.filterMap fun a => (h.get? a).map fun o => (a, o)
theorem MO (as : List Addr) (h : Heap) : (Kof as h).In h := by
 intro a o e
 induction as with
 | nil => cases e
 | cons b r ih =>
  simp only [Kof, List.filterMap_cons] at e
  cases hb : h.get? b with
  | none => rw [hb] at e; exact ih e
  | some ob =>
   rw [hb] at e
   simp only [Option.map_some, List.lookup] at e
   split at e
   ·rename_i q; cases e; rw [beq_iff_eq.mp q]; exact hb
   ·exact ih e
noncomputable def Li (t : BT) (n a : Nat) : Option Obj := match Nat.blt a n with
 | true => alive ((t.get a).getD default)
 | false => none
noncomputable def Jk (as : List Addr) (s : SharedT) : Frag := as.filterMap fun a => (Li s.tree s.n a).map fun o => (a, o)
theorem Kr (t : BT) (n : Nat) (life : Life) (a : Nat) : (absHeap t n life).get? a = Li t n a := by
 unfold Li
 cases h : Nat.blt a n with
 | true =>
  have h' : a < n := by simpa [Nat.blt_eq] using h
  show _ = alive ((t.get a).getD default)
  unfold Heap.get?
  rw [absHeap_at, if_pos h']
  generalize (t.get a).getD default = o
  obtain ⟨c, d, dt, sl⟩ := o
  cases dt <;> rfl
 | false =>
  have h' : ¬ a < n := by intro q; rw [Nat.blt_eq.mpr q] at h; cases h
  exact abs_get_none h'
theorem Kv (as : List Addr) (s : SharedT) : Kof as s.abs.heap = Jk as s := by
 unfold Kof Jk
 congr 1
 funext a
 show ((absHeap s.tree s.n s.life).get? a).map _ = _
 rw [Kr]
noncomputable def Ji : Nat → BT → List Obj → BT
 | _, t, [] => t
 | i, t, o :: r => Ji (i + 1) (t.ins i o) r
noncomputable def J5 (P : Params) (os : OsState) : SharedT := ⟨Ji 0 .nil (boot_heap P).objs.toList, 11, {}, #[], boot_drawn, boot_toks, os⟩
theorem Iw (P : Params) (os : OsState) : (J5 P os).abs = ⟨boot_heap P, #[], boot_drawn, boot_toks, os⟩ := by kernel_rfl
theorem JJ (P : Params) : ((boot_heap P).isNs mainGlobals && (#[] : Array GenState).size == 0, (boot_heap P).objs.size, (boot_heap P).nsMap mainGlobals "__annotations__") = (true, 11, some (.ref 6)) := by kernel_rfl
noncomputable def Je {β : Type} (p q : Program) (loose : List Str) (obs : SharedT → β) (P : Params) (s : SharedT) :=
 ((staticsOk (importedModules p.main.body) (boot_heap P) s.abs.heap && namesBound p s.abs.heap && gensDone s.abs && laidKept (boot_heap P) s.abs.heap), openSeen q loose (importedModules p.main.body) (fun _ => true) true s.abs, obs s)
noncomputable def ED {β : Type} (p q : Program) (loose : List Str) (obs : SharedT → β) (M : Nat) (w : World) (os : OsState) :=
 (DL treeTable p w 11 (some (.ref 6)) M (J5 w.params os) (topStub p)).map (Je p q loose obs w.params)
noncomputable def Jq {β : Type} (p : Program) (obs : SharedT → β) (M : Nat) (w : World) (os : OsState) :=
 (DL treeTable p w 11 (some (.ref 6)) M (J5 w.params os) (topStub p)).map obs
theorem Hm {β : Type} {p q : Program} {loose : List Str} {B : SharedT → β} {M : Nat} {w : World} {os : OsState} {v : β} (e1 : ED p q loose (fun _ => ()) M w os = some (true, openGood q loose, ())) (e2 : Jq p B M w os = some v) : ED p q loose B M w os = some (true, openGood q loose, v) := by
 obtain ⟨s, r, l⟩ := Option.map_eq_some_iff.mp e1
 obtain ⟨s', r', l'⟩ := Option.map_eq_some_iff.mp e2
 obtain rfl : s = s' := Option.some.inj (r.symm.trans r')
 obtain ⟨l1, l2, -⟩ : _ ∧ _ ∧ _ := by simpa only [Je, Prod.mk.injEq] using l
 unfold ED
 rw [r]
 exact congrArg some (Prod.ext l1 (Prod.ext l2 l'))
noncomputable abbrev Seen := Option (Str × Str × Arguments × List Stmt × Scope × Addr × List (Str × Addr) × Addr × Bool × List Int)
noncomputable def HK : List Value → Option (List Int)
 | [] => some []
 | .int i _ :: r => (HK r).map (i :: ·)
 | _ => none
noncomputable def dfl (K : Frag) : Value → Option (List Int)
 | .none => some []
 | .ref d => match K.lookup d with
  | some ⟨_, _, .seq vs _, _⟩ => match HK vs.toList with
   | some (i :: r) => some (i :: r)
   | _ => none
  | _ => none
 | _ => none
noncomputable def Jy (K : Frag) (f : Addr) (qual : Str) : Seen := match K.lookup f with
 | some ⟨_, _, .func ⟨nm, q, ps, .stmts b, sc, g, cl, dV, _, _, _, _, cd, _, bi⟩, _⟩ => match dfl K dV with
  | some ds => some (nm, q, ps, b, sc, g, cl, bi, codeIn K cd qual && keepIn K (.ref f), ds)
  | none => none
 | _ => none
noncomputable def Bk (K : Frag) (x : Str) : Seen := match nsIn K mainGlobals x with
 | some (some (.ref f)) => Jy K f x
 | _ => none
noncomputable def DK (K : Frag) (c x qual : Str) : Seen := match nsIn K mainGlobals c with
 | some (some (.ref C)) => match findIn K (.ref C) x with
  | some (some (.ref f)) => match isFn K (.ref f) with
   | true => Jy K f qual
   | false => none
  | _ => none
 | _ => none
noncomputable def Am (x qual : Str) (st : Stmt) (ds : List Int) : Seen := some (x, qual, Ao st, Af st, AE st, mainGlobals, [], builtinsNs, true, ds)
noncomputable def Kz (K : Frag) (c : Str) (fs : List Str) : Bool := match nsIn K mainGlobals c with
 | some (some (.ref C)) => plainGet K C Str.empty && hasDictIn K C && plainOver K C && findIn K (.ref C) "__setattr__" == some (some (.builtin "object.__setattr__")) && makesIn K C && keepIn K (.ref C) && fs.all fun f => findIn K (.ref C) f == some none
 | _ => false
noncomputable def DE (K : Frag) (c : Str) : Bool := match nsIn K mainGlobals c with
 | some (some (.ref C)) => excIn K C bmV "ValueError.__new__"
 | _ => false
noncomputable def N0 (K : Frag) (a b : Str) : Option Bool := match nsIn K mainGlobals a, nsIn K mainGlobals b with
 | some (some (.ref A)), some (some (.ref B)) => exmOne K (.ref A) (.ref B)
 | _, _ => none
noncomputable def GB (K : Frag) (x : Str) : Option Int := match nsIn K mainGlobals x with
 | some (some (.int i _)) => some i
 | _ => none
noncomputable def Lf (K : Frag) (x : Str) : Option Str := match nsIn K mainGlobals x with
 | some (some (.str i _)) => some i
 | _ => none
noncomputable def DU (K : Frag) (x : Str) : Bool := match nsIn K mainGlobals x with
 | some none => true
 | _ => false
section
variable {K : Frag}
theorem Gy {v : Value} (e : dfl K v = some []) : v = .none := by
 unfold dfl at e
 split at e
 ·rfl
 ·repeat' split at e
  all_goals cases e
 ·cases e
theorem Fh : ∀ {vs : List Value} {is : List Int}, HK vs = some is → ∃ ts : List Tok, ts.length = is.length ∧ vs = is.zipWith Value.int ts
 | [], is, e => by cases e; exact ⟨[], rfl, rfl⟩
 | v :: r, is, e => by
  unfold HK at e
  split at e
  ·cases e; rename_i h; cases h
  ·rename_i i t r' h
   cases h
   cases h2 : HK r with
   | none => rw [h2] at e; cases e
   | some js =>
    rw [h2] at e
    cases e
    obtain ⟨ts, hl, rfl⟩ := Fh h2
    exact ⟨t :: ts, by simp [hl], rfl⟩
  ·cases e
theorem J8 {v : Value} {i : Int} {r : List Int} (e : dfl K v = some (i :: r)) : ∃ d cl di n sl ts, v = .ref d ∧ ts.length = (i :: r).length ∧ K.lookup d = some ⟨cl, di, .seq ((i :: r).zipWith Value.int ts).toArray n, sl⟩ := by
 unfold dfl at e
 split at e
 ·cases e
 ·rename_i d
  split at e
  ·rename_i cl di vs n sl hl
   split at e
   ·rename_i j r' h
    cases e
    obtain ⟨ts, h1, h2⟩ := Fh h
    refine ⟨d, cl, di, n, sl, ts, rfl, h1, ?_⟩
    rw [hl, ← h2]
   ·cases e
  ·cases e
 ·cases e
theorem F9 {f : Addr} {x qual : Str} {st : Stmt} {ds : List Int} (e : Jy K f qual = Am x qual st ds) : ∃ (oc : Value) (od : Option Addr) (sl : Array (Option Value)) (dV kV dc pm : Value) (an : Option Addr) (cd ct : Value),
  K.lookup f = some ⟨oc, od, .func (fnOf x qual (Ao st) (Af st) (AE st) dV kV dc pm an cd ct), sl⟩ ∧ codeIn K cd qual = true ∧ keepIn K (.ref f) = true ∧ dfl K dV = some ds := by
 unfold Jy Am at e
 split at e
 ·rename_i oc od nm q ps b sc g cl dV kV dc pm an cd ct bi sl hl
  split at e
  ·rename_i ds' hd
   simp only [Option.some.injEq, Prod.mk.injEq, Bool.and_eq_true] at e
   obtain ⟨rfl, rfl, rfl, rfl, rfl, rfl, rfl, rfl, ⟨h1, h2⟩, rfl⟩ := e
   exact ⟨oc, od, sl, dV, kV, dc, pm, an, cd, ct, hl, h1, h2, hd⟩
  ·cases e
 ·cases e
theorem II {x : Str} {st : Stmt} (e : Bk K x = Am x x st []) : ∃ (f : Addr) (oc : Value) (od : Option Addr) (sl : Array (Option Value)) (kV dc pm : Value) (an : Option Addr) (cd ct : Value),
  nsIn K mainGlobals x = some (some (.ref f)) ∧ K.lookup f = some ⟨oc, od, .func (fnOf x x (Ao st) (Af st) (AE st) .none kV dc pm an cd ct), sl⟩ ∧ codeIn K cd x = true ∧ keepIn K (.ref f) = true := by
 unfold Bk at e
 split at e
 ·rename_i f hf
  obtain ⟨oc, od, sl, dV, kV, dc, pm, an, cd, ct, h1, h2, h3, h4⟩ := F9 e
  cases Gy h4
  exact ⟨f, oc, od, sl, kV, dc, pm, an, cd, ct, hf, h1, h2, h3⟩
 ·cases e
theorem LP {C : Addr} {c x qual : Str} {st : Stmt} {ds : List Int} (hc : nsIn K mainGlobals c = some (some (.ref C))) (e : DK K c x qual = Am x qual st ds) : ∃ f : Addr, findIn K (.ref C) x = some (some (.ref f)) ∧ isFn K (.ref f) = true ∧ Jy K f qual = Am x qual st ds := by
 unfold DK at e
 rw [hc] at e
 dsimp only at e
 split at e
 ·rename_i f hf
  split at e
  ·rename_i h
   exact ⟨f, hf, h, e⟩
  ·cases e
 ·cases e
theorem Kb {C : Addr} {c x qual : Str} {st : Stmt} (hc : nsIn K mainGlobals c = some (some (.ref C))) (e : DK K c x qual = Am x qual st []) : ∃ (f : Addr) (oc : Value) (od : Option Addr) (sl : Array (Option Value)) (kV dc pm : Value) (an : Option Addr) (cd ct : Value),
  findIn K (.ref C) x = some (some (.ref f)) ∧ isFn K (.ref f) = true ∧ K.lookup f = some ⟨oc, od, .func (fnOf x qual (Ao st) (Af st) (AE st) .none kV dc pm an cd ct), sl⟩ ∧ codeIn K cd qual = true ∧ keepIn K (.ref f) = true := by
 obtain ⟨f, hf, hi, e⟩ := LP hc e
 obtain ⟨oc, od, sl, dV, kV, dc, pm, an, cd, ct, h1, h2, h3, h4⟩ := F9 e
 cases Gy h4
 exact ⟨f, oc, od, sl, kV, dc, pm, an, cd, ct, hf, hi, h1, h2, h3⟩
theorem KN {C : Addr} {c x qual : Str} {st : Stmt} {i : Int} (hc : nsIn K mainGlobals c = some (some (.ref C))) (e : DK K c x qual = Am x qual st [i]) : ∃ (f : Addr) (oc : Value) (od : Option Addr) (sl : Array (Option Value)) (d : Addr) (kV dc pm : Value) (an : Option Addr) (cd ct : Value) (dcl : Value) (ddi : Option Addr) (dn : Nat) (dsl : Array (Option Value)) (tk : Tok),
  findIn K (.ref C) x = some (some (.ref f)) ∧ isFn K (.ref f) = true ∧ K.lookup f = some ⟨oc, od, .func (fnOf x qual (Ao st) (Af st) (AE st) (.ref d) kV dc pm an cd ct), sl⟩ ∧ codeIn K cd qual = true ∧ keepIn K (.ref f) = true ∧ K.lookup d = some ⟨dcl, ddi, .seq #[.int i tk] dn, dsl⟩ := by
 obtain ⟨f, hf, hi, e⟩ := LP hc e
 obtain ⟨oc, od, sl, dV, kV, dc, pm, an, cd, ct, h1, h2, h3, h4⟩ := F9 e
 obtain ⟨d, cl, di, n, sl', ts, rfl, hl, h5⟩ := J8 h4
 match ts, hl with
 | [t], _ => exact ⟨f, oc, od, sl, d, kV, dc, pm, an, cd, ct, cl, di, n, sl', t, hf, hi, h1, h2, h3, h5⟩
theorem IX {c : Str} {fs : List Str} (e : Kz K c fs = true) : ∃ C : Addr, nsIn K mainGlobals c = some (some (.ref C)) ∧ plainGet K C Str.empty = true ∧ hasDictIn K C = true ∧ plainOver K C = true ∧
  findIn K (.ref C) "__setattr__" = some (some (.builtin "object.__setattr__")) ∧ makesIn K C = true ∧ keepIn K (.ref C) = true ∧ ∀ f ∈ fs, findIn K (.ref C) f = some none := by
 unfold Kz at e
 split at e
 ·rename_i C hC
  simp only [Bool.and_eq_true, beq_iff_eq, List.all_eq_true] at e
  obtain ⟨⟨⟨⟨⟨⟨h1, h2⟩, h3⟩, h4⟩, h5⟩, h6⟩, h7⟩ := e
  exact ⟨C, hC, h1, h2, h3, h4, h5, h6, h7⟩
 ·cases e
theorem Aq {c : Str} (e : DE K c = true) : ∃ C : Addr, nsIn K mainGlobals c = some (some (.ref C)) ∧ excIn K C [.type "ValueError", .type "Exception", .type "BaseException", .type "object"] "ValueError.__new__" = true := by
 unfold DE at e
 split at e
 ·rename_i C hC
  exact ⟨C, hC, e⟩
 ·cases e
theorem K3 {a b : Str} {A B : Addr} {r : Bool} (ha : nsIn K mainGlobals a = some (some (.ref A))) (hb : nsIn K mainGlobals b = some (some (.ref B))) (e : N0 K a b = some r) : exmOne K (.ref A) (.ref B) = some r := by
 unfold N0 at e
 rw [ha, hb] at e
 exact e
theorem B7 {x : Str} {i : Int} (e : GB K x = some i) : ∃ t : Tok, nsIn K mainGlobals x = some (some (.int i t)) := by
 unfold GB at e
 split at e
 ·rename_i j t h
  cases e
  exact ⟨t, h⟩
 ·cases e
theorem KZ {x y : Str} (e : Lf K x = some y) : ∃ t : Tok, nsIn K mainGlobals x = some (some (.str y t)) := by
 unfold Lf at e
 split at e
 ·rename_i j t h
  cases e
  exact ⟨t, h⟩
 ·cases e
theorem Ay {x : Str} (e : DU K x = true) : nsIn K mainGlobals x = some none := by
 unfold DU at e
 split at e
 ·assumption
 ·cases e
end
theorem Oe {R : WRecords} {h : Heap} (e : R = []) : RecFacts R h := by
 subst e
 exact ⟨fun x hx => (nomatch hx), fun x hx => (nomatch hx), fun c c' a (hc : false = true) => (nomatch hc), fun c fs (hf : none = some fs) => (nomatch hf)⟩
end TG
namespace L2
open PySem
end L2
namespace TG
open PySem L2
section
variable {C D L b S P : Addr} {ow : List Addr} {gs : List G} {past : List (List G)} {H H' : Hp} {kvs : List (Key × V)} {xs : List V}
end
end TG
namespace L2
end L2
namespace TG
open PySem L2
end TG
namespace L2
open PySem
end L2
namespace TG
open PySem L2
end TG
namespace L2
open PySem PySem.Spec PyProof.Rows
section
variable {X : Cx}
noncomputable def Dj (K : PySem.W.Frag) : List V → Hp → VK → Prop := fun xs H Q => ∃ l, xs = [.ref l] ∧ ∃ ns : List Int, SqL K H l (ns.map V.int) ∧ ns.length < 4000 ∧
 ∀ (D : Addr) (H' : Hp) (S : Int → Bool) (n : Nat), H D = none → AH H H' → H' D = some (.set S n) → n ≤ ns.length → (n = ns.length ↔ ns.Nodup) → Q (.ref D) H'
noncomputable def DJ : List V → Hp → VK → Prop := fun xs H Q => ∃ a, xs = [V.ref a] ∧ ∃ (S : Int → Bool) (n : Nat), H a = some (.set S n) ∧ Q (.int n) H
end
end L2
namespace TG
open PySem L2
end TG
namespace L2
open PySem
open PySem.Spec PyProof.Rows
section
variable {X : Cx}
noncomputable def DI (K : PySem.W.Frag) : R2 := fun x y H Q => ∃ a b, x = .ref a ∧ y = .ref b ∧ ∃ ns : List Int, SqL K H a (ns.map V.int) ∧ ∃ ms : List Int, SqL K H b (ms.map V.int) ∧ Q (.bl (decide (ns = ms))) H
end
end L2
namespace TG
open PySem L2
open PySem.W
section
variable {K : Frag} {mg : Str → Option Value} {h : Heap}
theorem An {x : Str} {st : Stmt} {ps : List Str} (X : K.In h) (G : h.Ns mainGlobals mg) (e : Bk K x = Am x x st [])
  (b : ∀ (kV doc pm : Value) (an : Option Addr) (cdv ct : Value) (us : List Value), us.length = ps.length → bindArgs (fnOf x x (Ao st) (Af st) (AE st) .none kV doc pm an cdv ct) ⟨us, []⟩ = pure (ps.zip us)) : ∃ f fd, D K mg x st ps f fd := by
 obtain ⟨f, oc, od, sl, kV, dc, pm, an, cd, ct, a, l, c, k⟩ := II e
 exact ⟨f, _, Dt l c k, mg_of X G a, (Dt l c k).binds b⟩
theorem DF {C : Addr} {c x qual : Str} {st : Stmt} {ps : List Str} (hc : nsIn K mainGlobals c = some (some (.ref C))) (e : DK K c x qual = Am x qual st [])
  (b : ∀ (kV doc pm : Value) (an : Option Addr) (cdv ct : Value) (us : List Value), us.length = ps.length → bindArgs (fnOf x qual (Ao st) (Af st) (AE st) .none kV doc pm an cdv ct) ⟨us, []⟩ = pure (ps.zip us)) : ∃ f fd, DM K C x qual st ps f fd := by
 obtain ⟨f, oc, od, sl, kV, dc, pm, an, cd, ct, a, i, l, c, k⟩ := Kb hc e
 exact ⟨f, _, Dt l c k, ⟨a, i, k⟩, (Dt l c k).binds b⟩
theorem Kw {C : Addr} {c x qual : Str} {st : Stmt} {ps : List Str} {j : Int} (hc : nsIn K mainGlobals c = some (some (.ref C))) (e : DK K c x qual = Am x qual st [j])
  (b : ∀ (s : Shared) (d : Addr) (kV doc pm : Value) (an : Option Addr) (cdv ct : Value) (cl : Value) (di : Option Addr) (n : Nat) (sl : Array (Option Value)) (tk : Tok) (us : List Value), s.heap.get? d = some ⟨cl, di, .seq #[.int j tk] n, sl⟩ → us.length = ps.length → BindsTo s (fnOf x qual (Ao st) (Af st) (AE st) (.ref d) kV doc pm an cdv ct) ⟨us, []⟩ (ps.zip us))
  (bd : ∀ (s : Shared) (d : Addr) (kV doc pm : Value) (an : Option Addr) (cdv ct : Value) (cl : Value) (di : Option Addr) (n : Nat) (sl : Array (Option Value)) (tk : Tok) (us : List Value), s.heap.get? d = some ⟨cl, di, .seq #[.int j tk] n, sl⟩ → us.length + 1 = ps.length → BindsTo s (fnOf x qual (Ao st) (Af st) (AE st) (.ref d) kV doc pm an cdv ct) ⟨us, []⟩ (ps.zip (us ++ [.int j tk]))) : ∃ f fd, DMD K C x qual st ps f fd [.int j] := by
 obtain ⟨f, oc, od, sl, d, kV, dc, pm, an, cd, ct, dcl, ddi, dn, dsl, tk, a, i, l, c, k, lt⟩ := KN hc e
 refine ⟨f, _, ⟨⟨_, _, _, _, _, _, _, _, _, _, rfl, l, c⟩, k⟩, ⟨a, i, k⟩, fun s us hK hl => ?_, ⟨[.int j tk], .cons ⟨_, rfl⟩ .nil, fun s us hK hl => ?_⟩⟩
 ·rw [List.append_nil] at hl ⊢
  exact b s d kV dc pm an cd ct dcl ddi dn dsl tk us (hK _ _ lt) hl
 ·exact bd s d kV dc pm an cd ct dcl ddi dn dsl tk us (hK _ _ lt) (by simpa using hl)
end
end TG
namespace L2
open PySem PySem.Spec PyProof.Rows
section
variable {prog : Program} {w : World} {A : Around} {R : Result → Shared → Prop} {I : Addr} {fp wr : List Addr} {G : Array GenState → Array GenState → Prop} {n : Nat} {P : Nat → Value → Prop} {St : Nat → Shared → Prop}
end
section
variable {X : Cx}
end
end L2
namespace TG
open PySem L2
end TG
namespace L2
open PySem PySem.Spec PyProof.Rows
section
variable {M : Model} {A : Around} {E : Value → Shared → Prop} {s : Shared} {B : Heap} {l : List Env} {ea : Addr} {kl a0 fl : Value}
theorem JN {g : Option Addr} {Q : Unit → Shared → Prop} (st : B.StaysIn s.heap) (ff : s.heap.FunFrames B l) (tr : s.heap.TracedAtW B ea kl a0 fl)
  (q : ∀ h2, B.StaysIn h2 → h2.FunFrames B l → h2.TracedAtW B ea kl a0 (g.elim .none fun f => rawInt f) → s.heap.UpToSlots h2 → Q () { s with heap := h2 }) : wpAny M A (setFlight (.ref ea) g) Q E s := by
 obtain ⟨ob, us, tb, ot, ws, g1, g2, g3, g4, g5, g6, g7, g8, g9⟩ := tr
 have lt3 := (Array.getElem?_eq_some_iff.mp g9).1
 have far : ∀ b, b ≠ tb → (s.heap.update tb (Obj.mapFields (·.setIfInBounds 3 (g.elim Value.none fun f => rawInt f)))).get? b = s.heap.get? b := fun b z => Heap.get?_update_other _ _ z.symm
 have rec' : ∀ b o, s.heap.get? b = some o → (∀ vs, o.data ≠ .fields vs) → b ≠ tb := fun b o e n z => by
  rw [z, g7] at e
  cases e
  exact n ws g8
 unfold setFlight
 refine wpAny_bind (wpAny_field g1 g3 g4 ?_)
 rw [if_pos (by simp)]
 refine wpAny_setField g7 g8 lt3 (q _ ?_ ?_ ?_ ?_)
 ·intro b o e
  refine (far b fun z => ?_).trans (st b o e)
  rw [z, g5] at e
  cases e
 ·exact ff.of_keeps fun b o e n => ⟨o, (far b (rec' b o e n)).trans e, rfl⟩
 ·refine ⟨ob, us, tb, _, _, (far ea g6.symm).trans g1, g2, g3, g4, g5, g6, Heap.get?_update_self _ g7 (Obj.isFreed_of_fields (Obj.data_mapFields g8 _)), Obj.data_mapFields g8 _, ?_⟩
  simp [lt3]
 ·exact fun b o e n => ⟨o.slots, (far b (rec' b o e n)).trans e⟩
theorem Il {what : String} {cenv : Env} {α : Type} {Q : α → Shared → Prop} (st : B.StaysIn s.heap) (ff : s.heap.FunFrames B l) (tr : s.heap.TracedAtW B ea kl a0 fl)
  (q : ∀ h2 fl', B.StaysIn h2 → h2.FunFrames B l → h2.TracedAtW B ea kl a0 fl' → s.heap.UpToSlots h2 → E (.ref ea) { s with heap := h2 }) : wpAny M A (PySem.passOn what (.ref ea) cenv) Q E s := by
 obtain ⟨ob, us, tb, ot, ws, g1, g2, g3, g4, g5⟩ := id tr
 unfold PySem.passOn
 refine wpAny_bind (wpAny_field g1 g3 g4 ?_)
 rw [if_neg (by simp)]
 refine wpAny_bind (JN st ff tr fun h2 k1 k2 k3 k4 => ?_)
 exact wpAny_throw (q h2 _ k1 k2 k3 k4)
theorem Hq {env : Env} {outer : List Env} {L : Addr} {Q : Unit → Shared → Prop} (fr : A.frames = some (env :: outer)) (el : env.frame = some L) (st : B.StaysIn s.heap) (nb : B.get? ea = none) (ff : s.heap.FunFrames B (env :: outer)) (tr : s.heap.TracedAtW B ea kl a0 fl)
  (q : ∀ h2, Heap.FlyingW B outer ea kl a0 h2 → s.heap.UpToSlots h2 → Q () { s with heap := h2 }) : wpAny M A (leaving env (.ref ea)) Q E s := by
 by_cases here : fl = rawInt L
 ·rw [here] at tr
  unfold leaving
  refine wpAny_bind (wpAny_noteFrame_againW el tr ?_)
  exact wpAny_landsW ⟨st, nb, ff, tr⟩ fun h2 ⟨k1, k2, k3, k4⟩ up => q h2 ⟨k1, k2, k3.2.2, k4⟩ up
 obtain ⟨ob, us, tb, ot, ws, g1, ⟨gc, g0⟩, g3, g4, g5, g6, g7, g8, g9⟩ := tr
 subst gc
 have lt3 := (Array.getElem?_eq_some_iff.mp g9).1
 unfold leaving noteFrame
 simp only [el]
 refine wpAny_bind (wpAny_bind (wpAny_field g1 g3 g4 ?_))
 rw [if_pos (by simp)]
 refine wpAny_bind (wpAny_field g7 g8 g9 ?_)
 rw [if_neg (fun z => here (eq_of_beq z))]
 refine wpAny_bind (wpAny_setField g7 g8 lt3 ?_)
 have far : ∀ b, b ≠ tb → (s.heap.update tb (Obj.mapFields (·.setIfInBounds 3 Value.none))).get? b = s.heap.get? b := fun b z => Heap.get?_update_other _ _ z.symm
 have rec' : ∀ b o, s.heap.get? b = some o → (∀ vs, o.data ≠ .fields vs) → b ≠ tb := fun b o e n z => by
  rw [z, g7] at e
  cases e
  exact n ws g8
 have st1 : B.StaysIn (s.heap.update tb (Obj.mapFields (·.setIfInBounds 3 Value.none))) := fun b o e => (far b fun z => by rw [z, g5] at e; cases e).trans (st b o e)
 have ff1 := ff.of_keeps fun b o e n => ⟨o, (far b (rec' b o e n)).trans e, rfl⟩
 refine wpAny_newEntryW fr ff1 el ((far ea g6.symm).trans g1) st1 nb g3 (Array.getElem?_eq_some_iff.mp g4).1 g0 fun h2 ⟨x1, x2, x3, x4⟩ => q h2 ⟨x1, nb, x2.2.2, x3⟩ fun b o e n => ?_
 exact x4 b o ((far b (rec' b o e n)).trans e) n
end
section
variable {P : Program} {w : World} {K : PySem.W.Frag} {mg : Str → Option Value} {base : Heap} {N : List Str} {qual : Str} {scope : Scope} {f : Addr} {cd : Value} {A : Around} {outer : List Env} {s0 : Shared} {H0 : Hp} {E : XK}
 {pins pins' : List (Addr × Obj)} {σ σ' : St} {H H1 : Hp} {s s1 s' : Shared} {sc : Scope} {x : Str} {caps : List Str} {ix : List Nat}
theorem HW {fp : List Addr} {C : Addr} {acc e : Value} {QQ : Value → Shared → Prop} (S : Ab (Ac (CXE P w) P w K mg base N qual scope f cd A outer s0 H0 E) sc x caps ix) (I : Inv (Ac (CXE P w) P w K mg base N qual scope f cd A outer s0 H0 E) pins σ H s)
  (hf : ∀ b ∈ fp, DT (Ac (CXE P w) P w K mg base N qual scope f cd A outer s0 H0 E) pins H b) (hC : s.heap.objs.size ≤ C)
  (I1 : Inv (AS (Ac (CXE P w) P w K mg base N qual scope f cd A outer s0 H0 E) sc (AQ (Ac (CXE P w) P w K mg base N qual scope f cd A outer s0 H0 E) caps) (x :: caps) C s H fp) pins' σ' H1 s1) (hfp : ∀ b ∈ fp, ∃ o, s1.heap.get? b = some o)
  (hx : CXE P w (Ac (CXE P w) P w K mg base N qual scope f cd A outer s0 H0 E).stack H1 s1 (fun cls _ H' => E cls none H') e s') :
  notedBy (model P w) (Ac (CXE P w) P w K mg base N qual scope f cd A outer s0 H0 E).A (compEnvC sc (AQ (Ac (CXE P w) P w K mg base N qual scope f cd A outer s0 H0 E) caps) C (Ac (CXE P w) P w K mg base N qual scope f cd A outer s0 H0 E).env)
   (fun e s' => compPost (model P w) (Ac (CXE P w) P w K mg base N qual scope f cd A outer s0 H0 E).A (Ac (CXE P w) P w K mg base N qual scope f cd A outer s0 H0 E).xe none QQ acc C (.error e) s') e s' := by
 obtain ⟨ea, cls, H', rfl, os, bare, un, hok, ⟨B, a0, fl, c1, c2⟩, hE⟩ := hx
 have J := I1.call' (ch := []) os un hok bare (fun b z => absurd z (by simp))
 have JX := S.back I hf hC J (Heap.SameBut.refl _ _)
 have J1X := S.back I hf hC I1 (Heap.SameBut.refl _ _)
 show wpAny _ _ (noteFrame (.ref ea) (Ac (CXE P w) P w K mg base N qual scope f cd A outer s0 H0 E).env) _ _ s'
 refine wpAny_looks_onW (env := (Ac (CXE P w) P w K mg base N qual scope f cd A outer s0 H0 E).env) I.ok.frames rfl fl fun h4 held4 up4 => ?_
 have JX4 := Inv.fly (h' := h4) J1X JX fl.1 held4.1 up4 c1 c2
 obtain ⟨m, hn, _⟩ := J.loc
 have hn4 := up4.ns hn
 refine ⟨m, hn4, fun h5 hs cenv _ => ?_⟩
 have JX5 := LV I hC JX4 J.free hs
 have sub : (PySem.W.hideAll B [C]).StaysIn B := fun b o e => PySem.W.of_hideAll _ e
 have neC : ∀ b o, (PySem.W.hideAll B [C]).get? b = some o → b ≠ C := fun b o e z => by
  rw [z, PySem.W.hideAll_none [C] (by simp)] at e
  cases e
 have inB : ∀ b o, B.get? b = some o → b ≠ C → ∃ o', (PySem.W.hideAll B [C]).get? b = some o' := fun b o e z => ⟨o, PySem.W.hideAll_get _ e (by simpa using z)⟩
 have c1' : ∀ b o, s.heap.get? b = some o → b ∉ frs (Ac (CXE P w) P w K mg base N qual scope f cd A outer s0 H0 E).stack → ∃ o', (PySem.W.hideAll B [C]).get? b = some o' := fun b o e hb => by
  have hbC : b ≠ C := Nat.ne_of_lt (Nat.lt_of_lt_of_le (Heap.lt_size e) hC)
  have : ∃ o1, s1.heap.get? b = some o1 := by
   by_cases z : b ∈ fp
   ·exact hfp b z
   ·exact I1.base.there b o e z
  obtain ⟨o1, e1⟩ := this
  obtain ⟨o2, e2⟩ := c1 b o1 e1 hb
  exact inB b o2 e2 hbC
 have c2' : ∀ b, H' b ≠ none → ∃ o', (PySem.W.hideAll B [C]).get? b = some o' := fun b hb => by
  obtain ⟨o, e⟩ := c2 b hb
  exact inB b o e fun z => hb (by rw [z]; exact J.free)
 have st5 : (PySem.W.hideAll B [C]).StaysIn h5 := fun b o e => (hs.2 b (neC b o e)).trans (held4.1 b o (sub b o e))
 have nb5 : (PySem.W.hideAll B [C]).get? ea = none := by
  cases q : (PySem.W.hideAll B [C]).get? ea with
  | none => rfl
  | some o =>
   have := sub _ _ q
   rw [held4.2.1] at this
   cases this
 have frC : ∀ env ∈ (Ac (CXE P w) P w K mg base N qual scope f cd A outer s0 H0 E).stack, ∀ b ∈ [C], env.frame ≠ some b := fun env he b hb z => by
  rw [List.mem_singleton.mp hb] at z
  obtain ⟨L, o, e1, e2⟩ := PyProof.Rows.funFrames_in I.stack env he
  rw [z] at e1
  cases e1
  exact absurd (Nat.lt_of_lt_of_le (Heap.lt_size e2) hC) (Nat.lt_irrefl _)
 have ff5 := (PySem.W.funFrames_hideAll (PySem.W.funFrames_base sub held4.2.2.1) frC).of_keeps (h' := h5) fun b o e _ => ⟨o, (hs.2 b fun z => by rw [z, PySem.W.hideAll_none [C] (by simp)] at e; cases e).trans (PySem.W.of_hideAll _ e), rfl⟩
 have tr5 : h5.TracedAtW (PySem.W.hideAll B [C]) ea cls a0 (rawInt (Ac (CXE P w) P w K mg base N qual scope f cd A outer s0 H0 E).env.locals) := by
  obtain ⟨ob, us, tb, ot, ws, g1, g2, g3, g4, g5, g6, g7, g8, g9⟩ := held4.2.2.2
  obtain ⟨oC, es, ep, k1, k2, _⟩ := id hn4
  have nf : ∀ b o vs, h4.get? b = some o → o.data = .fields vs → b ≠ C := fun b o vs e d z => by
   have k1' : h4.get? C = some oC := k1
   rw [z, k1'] at e
   cases e
   rw [k2] at d
   cases d
  refine ⟨ob, us, tb, ot, ws, (hs.2 _ (nf _ _ _ g1 g3)).trans g1, g2, g3, g4, ?_, g6, (hs.2 _ (nf _ _ _ g7 g8)).trans g7, g8, g9⟩
  cases q : (PySem.W.hideAll B [C]).get? tb with
  | none => rfl
  | some o =>
   have := sub _ _ q
   rw [g5] at this
   cases this
 refine Il st5 ff5 tr5 fun h6 fl' k1 k2 k3 k4 => ?_
 refine Hq (A := A.deeper (envOfC qual scope s0.heap.objs.size f cd)) (env := envOfC qual scope s0.heap.objs.size f cd) (outer := outer) I.ok.frames rfl k1 nb5 k2 k3 fun h7 fl7 up7 => ?_
 have I7 := Inv.fly (h' := h7) I JX5 st5 fl7.1 (k4.trans up7) c1' c2'
 refine ⟨ea, cls, H', rfl, I7.os, I7.bare, I7.base, I7.hok, ⟨_, a0, fl7, fun b o e hb => ?_, c2'⟩, hE⟩
 obtain ⟨o1, a1⟩ := I.base.there b o e (fun z => absurd (show b ∈ ([] : List Addr) from z) (by simp))
 exact c1' b o1 a1 (I.notStack e hb)
end
section
variable {X : Cx} {pins : List (Addr × Obj)} {σ : St} {H : Hp} {s : Shared} {sc : Scope} {x : Str} {caps : List Str} {ix : List Nat}
theorem HD {elt iter : Expr} {px pos : Pos} {ifs : List Expr} {te : TE} {tc : TT} {J : It} {fp : List Addr} {it : Addr} {tn : Nat → Heap → Prop} {QH : Addr → Hp → Prop} {RR : Value → Addr → Result → Shared → Prop} {E : Value → Shared → Prop}
  (hc : X.calm = true) (S : Ab X sc x caps ix) (Nn : Value → St → Hp → Prop) (he : ∀ C s H ex pn xe, Ej ((AS X sc (AQ X caps) (x :: caps) C s H ex).trying pn xe) Nn → PE ((AS X sc (AQ X caps) (x :: caps) C s H ex).trying pn xe) elt te) (ht : ∀ C s H ex, PTs (AS X sc (AQ X caps) (x :: caps) C s H ex) ifs tc)
  (I : Inv X pins σ H s) (T : Hi X.prog X.w X.K (.Name x px) J fp it tn) (st : tn 0 s.heap) (hf : ∀ b ∈ fp, DT X pins H b) (h : ∀ D, H D = none → B0 te tc (BE σ ix) J D H (QH D))
  (hRR : ∀ D C (ps : List (Addr × Obj)) σ' H' s', s.heap.objs.size ≤ C → Inv (AS X sc (AQ X caps) (x :: caps) C s H fp) ps σ' H' s' → QH D H' → RR (.ref D) C (.ok .next) s')
  (hXE : ∀ D C pins' σ' H1 s1 e s', s.heap.objs.size ≤ C → Inv (AS X sc (AQ X caps) (x :: caps) C s H fp) pins' σ' H1 s1 → (∀ b ∈ fp, ∃ o, s1.heap.get? b = some o) → CXE X.prog X.w X.stack H1 s1 (fun cls _ H' => Nn cls σ' H') e s' →
   notedBy (model X.prog X.w) X.A (compEnvC sc (AQ X caps) C X.env) (fun e s' => RR (.ref D) C (.error e) s') e s') :
  wpAny (model X.prog X.w) X.A (newList []) (fun acc s₃ => wpAny (model X.prog X.w) X.A (newFunctionEnv sc X.env.globals (AQ X caps) [] X.env.qual none .none (some X.env)) (fun cenv s₄ =>
   codeAny (model X.prog X.w) X.A (.compStart (.ListComp elt [⟨.Name x px, iter, ifs, 0⟩] sc pos) 0 (.ref it) acc { cenv with scope := relabel sc X.env }) (RR acc cenv.locals) s₄) E s₃) E s := by
 refine wpAny_newObj_type (wpAny_newFunctionEnv S.nocell (by intro y hy; simp at hy) (fun h₁ hns₁ hsb₁ => ?_) S.kind)
 dsimp only at hns₁ hsb₁ ⊢
 generalize hH2 : s.heap.push { cls := .type "list", dict := none, data := .seq ([] : List Value).toArray } = H2 at hns₁ hsb₁ ⊢
 have hC : H2.objs.size = s.heap.objs.size + 1 := by rw [← hH2, Heap.size_push]
 have hDC : s.heap.objs.size ≠ H2.objs.size := by rw [hC]; exact Nat.ne_of_lt (Nat.lt_succ_self _)
 have hCle : s.heap.objs.size ≤ H2.objs.size := by rw [hC]; exact Nat.le_succ _
 have below : ∀ b, b < s.heap.objs.size → b ≠ H2.objs.size := fun b hb => by rw [hC]; exact Nat.ne_of_lt (Nat.lt_succ_of_lt hb)
 have old : ∀ b o, s.heap.get? b = some o → h₁.get? b = some o := fun b o e => hsb₁.extBut b o (below b (Heap.lt_size e)) (Heap.get?_push_of_some _ (hH2 ▸ Heap.get?_push_of_some _ e))
 have hacc : h₁.get? s.heap.objs.size = some { cls := .type "list", data := .seq #[] 0 } := hsb₁.extBut _ _ hDC (Heap.get?_push_of_some _ (hH2 ▸ Heap.get?_push_size _ rfl))
 have hb : ∀ b ∈ fp, b < s.heap.objs.size := fun b hbf => by obtain ⟨o, e, _⟩ := T.obj _ _ st b hbf; exact Heap.lt_size e
 have I1 := S.start (tk := s.toks + ([] : List (Str × Value)).length) I hf hb (Nat.le_refl _) hCle hDC old hacc hns₁
 obtain ⟨W, ⟨m0, w0⟩, turn⟩ := h _ (I.hok.fresh (Nat.le_refl _))
 have stat : ∀ {H' : Hp}, (∀ b ∈ fp, H' b = none) → ∀ b ∈ fp, DT (AS X sc (AQ X caps) (x :: caps) H2.objs.size s H fp) [] H' b := fun {H'} hn b hbf =>
  ⟨hn b hbf, (I1.ok.exf b hbf).1, I1.ok.exfs b hbf, .inl hbf, (I1.ok.exf b hbf).2, fun p hp => absurd (show p ∈ ([] : List (Addr × Obj)) from hp) (by simp)⟩
 have st1 : tn 0 h₁ := T.keep _ _ _ st fun b hbf o e => old b o e
 have fr1 : ∀ b ∈ fp, upd H s.heap.objs.size (.lst []) b = none := fun b hbf => by
  rw [AF (Nat.ne_of_lt (hb b hbf))]; exact (hf b hbf).1
 have loop : ∀ s₃ : Shared, s₃ = { s with heap := h₁, toks := s.toks + ([] : List (Str × Value)).length } →
   codeAny (model X.prog X.w) X.A (.compLoop (.ListComp elt [⟨.Name x px, iter, ifs, 0⟩] sc pos) 0 (.ref it) (.ref s.heap.objs.size) (compEnvC sc (AQ X caps) H2.objs.size X.env))
    (RR (.ref s.heap.objs.size) H2.objs.size) s₃ := by
  rintro s₃ rfl
  refine EQ (fun n s' => ∃ i ys H' ov, Inv (AS X sc (AQ X caps) (x :: caps) H2.objs.size s H fp) [] (ov :: BE σ ix) H' s' ∧ tn i s'.heap ∧ (∀ b ∈ fp, H' b = none) ∧ W i n ys H') rfl ?_ m0 ⟨0, [], _, none, I1, st1, fr1, w0⟩
  rintro n s3 ⟨i, ys, H3, ov, I3, st3, fr3, w3⟩
  rcases turn i n ys H3 w3 with ⟨stop, q⟩ | ⟨go, step⟩
  ·refine Ag (thn (T.done (AS X sc (AQ X caps) (x :: caps) H2.objs.size s H fp) rfl rfl rfl hc i [] s3 _ H3 _ I3 (stat fr3) st3 stop) fun r s4 zq => ?_)
   obtain ⟨hr, I4⟩ := zq
   subst hr
   exact hRR _ _ _ _ _ _ hCle I4 q
  ·refine Ag (thn (T.item (AS X sc (AQ X caps) (x :: caps) H2.objs.size s H fp) rfl rfl rfl hc i [] s3 _ H3 _ I3 (stat fr3) st3 go) fun r s4 zq => ?_)
   obtain ⟨u, hr, h4⟩ := zq
   subst hr
   refine Ag (thn h4 fun _ s5 zq => ?_)
   obtain ⟨v, H5, I5, r5, y5, st5, fr5⟩ := zq
   have I5' := I5.pinned (stat fr5) (T.obj _ _ st5)
   have hg : PG (AS X sc (AQ X caps) (x :: caps) H2.objs.size s H fp) (.Name x px) (Bh 0) := GY (i := 0) S.nd rfl (.inl (lookup_relabel_local S.hx)) (.inr (lookup_relabel_local S.hx))
   have again : ∀ {s7 : Shared} {H7 : Hp} {ys' : List V}, Inv (AS X sc (AQ X caps) (x :: caps) H2.objs.size s H fp) ([] ++ DA fp s5.heap) (some v :: BE σ ix) H7 s7 → (∃ m', m' < n ∧ W (i + 1) m' ys' H7) →
     ∃ m, m < n ∧ ∃ i ys H' ov, Inv (AS X sc (AQ X caps) (x :: caps) H2.objs.size s H fp) [] (ov :: BE σ ix) H' s7 ∧ tn i s7.heap ∧ (∀ b ∈ fp, H' b = none) ∧ W i m ys H' := fun {s7 H7 ys'} I7 ⟨m', hm, w7⟩ => by
    refine ⟨m', hm, i + 1, ys', H7, some v, I7.unpinned, T.keep _ _ _ st5 fun b hb o e => (I7.pin (b, o) (List.mem_append_right _ (List.mem_append_right _ (Az hb e)))).1, fun b hb => ?_, w7⟩
    obtain ⟨o, e, d⟩ := T.obj _ _ st5 b hb
    exact (I7.pin (b, o) (List.mem_append_right _ (List.mem_append_right _ (Az hb e)))).2.1
   refine Ag (thn (hg _ s5 _ H5 v u (fun σ' H' => σ' = some v :: BE σ ix ∧ H' = H5) I5' r5 ⟨rfl, rfl⟩) fun _ s6 zq => ?_)
   obtain ⟨σ6, H6, I6, e6, e6'⟩ := zq
   subst e6 e6'
   refine Ag (thn (ht _ _ _ _ _ s6 _ H6 _ I6 (step v H6 y5)) fun ok s7 zq => ?_)
   obtain ⟨H7, I7, q7⟩ := zq
   cases ok with
   | false => exact again I7 (by simpa using q7)
   | true =>
    rw [if_pos rfl] at q7
    rw [if_pos rfl]
    have pass : Ej ((AS X sc (AQ X caps) (x :: caps) H2.objs.size s H fp).trying ((AS X sc (AQ X caps) (x :: caps) H2.objs.size s H fp).pn ++ ([] ++ DA fp s5.heap)) (notedBy (model X.prog X.w) X.A (compEnvC sc (AQ X caps) H2.objs.size X.env) (fun e s' => RR (.ref s.heap.objs.size) H2.objs.size (.error e) s'))) Nn := fun pins' σ' Ha sa e sb I' hx => by
     have Ia := I'.tried I7.ok
     refine hXE _ _ _ _ _ _ _ _ hCle Ia (fun b hb => ?_) hx
     obtain ⟨o, e, d⟩ := T.obj _ _ st5 b hb
     exact ⟨o, (Ia.pin (b, o) (List.mem_append_right _ (List.mem_append_right _ (Az hb e)))).1⟩
    refine wpAny_mono (he _ _ _ _ _ _ pass [] s7 _ H7 _ (I7.trying _) q7) (fun yv s8 h8 => ?_) fun e s8 h8 => h8
    obtain ⟨y, H8, I8', r8, hD8, hz8, q8⟩ := h8
    have I8 := I8'.tried I7.ok
    refine Ag (thn (Dz _ s8 _ H8 (.ref s.heap.objs.size) [y] _ [yv] (fun _ H9 => H9 = upd H8 s.heap.objs.size (.lst (ys ++ [y]))) I8 rfl (.cons r8 .nil) ⟨_, _, _, rfl, rfl, hD8, hz8, rfl⟩) fun _ s9 zq => ?_)
    obtain ⟨_, H9, I9, _, e9⟩ := zq
    subst e9
    exact again I9 q8
 exact codeAny_compStart_list (loop _ rfl) (T.self _ 0 _ _ _ st1 (loop _ rfl))
end
section
variable {P : Program} {w : World} {K : PySem.W.Frag} {mg : Str → Option Value} {base : Heap} {N : List Str} {qual : Str} {scope : Scope} {f : Addr} {cd : Value} {A : Around} {outer : List Env} {s0 : Shared} {H0 : Hp} {E : XK}
 {sc : Scope} {x : Str} {caps : List Str} {ix : List Nat}
theorem JV {elt iter : Expr} {px pos : Pos} {ifs : List Expr} {wi : TI} {te : TE} {tc : TT} (hc : (Ac (CXE P w) P w K mg base N qual scope f cd A outer s0 H0 E).calm = true) (S : Ab (Ac (CXE P w) P w K mg base N qual scope f cd A outer s0 H0 E) sc x caps ix) (hi : PI (Ac (CXE P w) P w K mg base N qual scope f cd A outer s0 H0 E) (.Name x px) iter wi)
  (he : ∀ C s H ex pn xe, Ej ((AS (Ac (CXE P w) P w K mg base N qual scope f cd A outer s0 H0 E) sc (AQ (Ac (CXE P w) P w K mg base N qual scope f cd A outer s0 H0 E) caps) (x :: caps) C s H ex).trying pn xe) (fun cls _ H' => E cls none H') → PE ((AS (Ac (CXE P w) P w K mg base N qual scope f cd A outer s0 H0 E) sc (AQ (Ac (CXE P w) P w K mg base N qual scope f cd A outer s0 H0 E) caps) (x :: caps) C s H ex).trying pn xe) elt te)
  (ht : ∀ C s H ex, PTs (AS (Ac (CXE P w) P w K mg base N qual scope f cd A outer s0 H0 E) sc (AQ (Ac (CXE P w) P w K mg base N qual scope f cd A outer s0 H0 E) caps) (x :: caps) C s H ex) ifs tc)
  (hs : ∀ x, foldedSetIterable iter (Ac (CXE P w) P w K mg base N qual scope f cd A outer s0 H0 E).env x = pure x := by intro _; rfl) : PE (Ac (CXE P w) P w K mg base N qual scope f cd A outer s0 H0 E) (.ListComp elt [⟨.Name x px, iter, ifs, 0⟩] sc pos) (CL wi te tc ix) := by
 intro pins s σ H Q I h
 rw [eval_ListComp]
 refine wpAny_comprehension_free (use := none) rfl hs S.clos S.kind S.names (thn (hi pins s σ H _ I h) fun v s1 h1 => thn h1 fun itv s2 h2 => ?_)
 obtain ⟨it, fp, tn, J, H2, e, I2, T, st2, f2, q⟩ := h2
 subst e
 refine HD (RR := fun acc C => compPost (model P w) (Ac (CXE P w) P w K mg base N qual scope f cd A outer s0 H0 E).A (Ac (CXE P w) P w K mg base N qual scope f cd A outer s0 H0 E).xe none (EP (Ac (CXE P w) P w K mg base N qual scope f cd A outer s0 H0 E) pins σ Q) acc C) (QH := fun D H' => Q (.ref D) H') hc S (fun cls _ H' => E cls none H') he ht I2 T st2 f2 q ?_ fun D C pins' σ' H1 s1 e s' hC I1 hfp hx => HW S I2 f2 hC I1 hfp hx
 intro D C ps σ' H' s' hC I' hq
 obtain ⟨m, hn, _⟩ := I'.loc
 exact ⟨m, hn, fun h'' hs => ⟨.ref D, H', S.back I2 f2 hC I' hs, rfl, hq⟩⟩
end
section
variable {X : Cx}
end
end L2
namespace TG
open PySem L2
end TG
namespace LM
open PySem PySem.Spec PySem.Calls PyProof.Rows PySem.W L2
section
variable {prog : Program} {w : World} {A : Around} {E : Value → Shared → Prop} {s : Shared}
end
section
variable {X : Cx} {pins : List (Addr × Obj)} {σ : L2.St} {H : Hp} {s : Shared} {h' : Heap}
end
section
variable {X : Cx}
end
end LM
namespace TG
open PySem L2
end TG
namespace L2
open PySem PySem.Spec PyProof.Rows
section
variable {X : Cx}
noncomputable def rNeL0 (K : PySem.W.Frag) : R2 := fun x y H Q => ∃ a b, x = .ref a ∧ y = .ref b ∧ ∃ xs, SqL K H a xs ∧ SqL K H b [] ∧ Q (.bl (!decide (xs = []))) H
theorem LH (hu : X.A.units < cLine) : OpR X (compareOp .NotEq) (rNeL0 X.K) := by
 intro pins s σ H x y v u Q I rx ry h
 obtain ⟨a, b, rfl, rfl, xs, h1, h2, q⟩ := h
 cases rx
 cases ry
 obtain ⟨i1, r1, t1, _⟩ := I.list h1
 obtain ⟨i2, r2, t2, _⟩ := I.list h2
 cases r2
 have l1 := r1.length
 by_cases e : xs = []
 ·subst e
  cases r1
  rw [decide_eq_true rfl] at q
  exact SeqAt.RcNeAt.lists (e := fun _ => true) t1.isList t2.isList rfl hu (fun j h1 h2 => absurd h1 (by simp)) _ _ _ _ ⟨.bl false, H, I, rfl, q⟩
 ·rw [decide_eq_false e] at q
  refine SeqAt.RcNeAt.lists_lengths t1.isList t2.isList ?_ hu _ _ _ _ ⟨.bl true, H, I, rfl, q⟩
  have : i1.length ≠ 0 := by
   intro z
   rw [z] at l1
   exact e (List.eq_nil_of_length_eq_zero l1)
  simpa using this
end
end L2
namespace TG
open PySem L2
section
variable {T : Addr} {H H' : Hp} {pos : Pos} {qual : Str}
end
end TG
namespace L2
theorem K5 {c : TT} {A B : TS} {D : DC} {σ : St} {H : Hp} (h : ∀ a b : St → Hp → Prop, (∀ σ' H', A D σ' H' → a σ' H') → (∀ σ' H', B D σ' H' → b σ' H') → GW c (fun _ => a) (fun _ => b) D σ H) : GW c A B D σ H := h _ _ (fun _ _ z => z) fun _ _ z => z
open PySem PySem.Spec PyProof.Rows
section
variable {X : Cx} {CX : CXT} {k n : Nat} {f C : Addr} {fd : FuncData} {ps N : List Str} {sp : Sp} {E : XK} {x : Str} {p pos apos : Pos} {e : Expr} {es : List Expr} {t : TA} {st : Stmt} {a b : Expr} {ta tb te : TE} {r : R2}
theorem pcl (d : D X.K X.mg x st ps f fd) (F : Ad X.prog X.w X.K X.mg X.base CX k f fd ps sp) (hr : A1 n X.A) (hx : Ba CX X E) (ha : PA X (e :: es) t) (hk : k ≤ n := by decide) (hg : Gl X x := by rfl) (hdb : (x == ("__debug__" : Str)) = false := by decide)
  (he : starEach (e :: es) X.env = (false, eval e X.env) :: starEach es X.env := by rfl) (hpl : (backTo pos (starEach es X.env)).any (·.1) = false := by rfl) : PE X (.Call (.Name x p) (e :: es) [] pos) (CU sp [] E t) := KW F (hr.mono hk) hg d.m d.F.kp d.b .nil hx ha hdb he hpl
theorem pst (i : Nat) {sc : Scope} {pos' : Pos} (S : AM X.N ps sc) (he : PE X e te) (hi : X.N[i]? = some x := by rfl) (hx : Loc X.env.scope x := by first | exact Or.inl rfl | exact Or.inr rfl) (hs : swapsWith e (some (.Name x pos')) pos.line X.env = pure false := by rfl)
  (hf : X.fn x = true ∨ X.env.scope.names.lookup x = some .local := by first | exact .inl rfl | exact .inr rfl | assumption) : PS X (.Assign [.Name x pos'] e pos) (GJ te (Bh i)) := OX S.nd hi hx he hs hf
theorem pgn (i : Nat) {sc : Scope} (S : AM X.N ps sc) (hi : X.N[i]? = some x := by rfl) (hx : Loc X.env.scope x := by first | exact Or.inl rfl | exact Or.inr rfl) (hf : X.fn x = true ∨ X.env.scope.names.lookup x = some .local := by first | exact .inl rfl | exact .inr rfl | assumption) : PG X (.Name x pos) (Bh i) := GY S.nd hi hx hf
theorem pxi (hr : IxR X r) (ha : PE X a ta) (hb : PE X b tb) (hs : IH b := by exact fun _ _ => rfl) : PE X (.Subscript a b pos) (tOp r ta tb) := pe_ix hr ha hb hs
theorem ptc {op : CmpOp} (ho : OpR X (compareOp op) r) (ha : PE X a ta) (hb : PE X b tb) (hm : behindInMarks op b = false := by exact ML _) : PT X (.Compare a [op] [b] pos) (CQ (tOp r ta tb)) := LI ho ha hb hm
end
section
variable {X : Cx}
theorem FZ : BF X (.type "int") (fun xs H Q => ∃ x n, xs = [.str x] ∧ PySem.intText? x = some n ∧ x.length ≤ 640 ∧ Q (.int n) H) := by
 intro pins s σ H xs us Q I r h
 obtain ⟨x, n, rfl, hn, hl, q⟩ := h
 obtain ⟨u, rfl, t, rfl⟩ := vals1 r
 exact PySem.W.KIN.call_text hn hl ⟨.int n, H, I.tok _, ⟨_, rfl⟩, q⟩
noncomputable def GG : V → List V → Hp → VK → Prop := fun x vs H Q => ∃ a b, x = .str a ∧ vs = [.str b] ∧ Q (.bl (decide (0 + b.length ≤ a.length) && Builtin.Str.subAt a b 0)) H
theorem Fw : MtR X "str.startswith" GG := by
 intro pins s σ H x vs v us Q I rx rv h
 obtain ⟨a, b, rfl, rfl, q⟩ := h
 obtain ⟨t, rfl⟩ := rx
 obtain ⟨u, rfl, t', rfl⟩ := vals1 rv
 refine call_meets F.slot_str_startswith (typeIs_str _ _ _) F.entry_str_startswith (F.args_str_startswith_2 _ _) (gives_str_startswith a b t t').meets ?_
 exact ⟨.bl _, H, I, rfl, q⟩
noncomputable def OR : V → Option Int → Option Int → Hp → VK → Prop := fun x lo hi H Q => ∃ a, x = .str a ∧ a.length ≤ sizeLine ∧ Q (.str (Txt.slice a lo hi)) H
theorem Lh : SlR X OR := by
 intro pins s σ H x v vl vu lo hi sl Q I rx hs pl pu h
 obtain ⟨a, rfl, hz, q⟩ := h
 obtain ⟨t, rfl⟩ := rx
 have part : ∀ {v : Value} {o : Option Int}, IsPart v o → ∃ z : Option (Int × Tok), v = partValue z ∧ z.map (·.1) = o := fun h => by
  cases h with
  | none => exact ⟨none, rfl, rfl⟩
  | int i t => exact ⟨some (i, t), rfl, rfl⟩
 obtain ⟨zl, rfl, el⟩ := part pl
 obtain ⟨zu, rfl, eu⟩ := part pu
 subst el eu
 refine ⟨"str", _, F.slot_str_getitem.lookup, typeIs_str _ _ _, wpAny_getItem_str_slice (l := zl) (u := zu) (st := none) hs rfl (post_val_or_str ⟨Nat.le_trans (Txt.slice_le a _ _) hz, fun t' k => ?_⟩)⟩
 exact ⟨.str _, H, I.tok _, ⟨_, rfl⟩, q⟩
end
noncomputable def sg1 (x : Str) (i : Nat) : V := .str ⟨#[x.cps.getD i 0]⟩
noncomputable def Its (x : Str) : It := ⟨fun i _ => i < x.cps.size, fun i H v H' => H' = H ∧ v = sg1 x i, fun i _ => x.cps.size ≤ i⟩
theorem JS {P : Program} {w : World} {K : PySem.W.Frag} {tg : Expr} (x : Str) (it : Addr) : Hi P w K tg (Its x) [it] it (fun i h => ∃ t, h.IsStrIter it "str_ascii_iterator" x t i) where
 mem := by simp
 obj := fun i h ⟨t, o, e, c, d⟩ b hb => by
  have z : b = it := by simpa using hb
  rw [z]
  exact ⟨o, e, fun v y => by rw [d] at y; cases y⟩
 keep := fun i h h' ⟨t, o, e, c, d⟩ k => ⟨t, o, k it (by simp) o e, c, d⟩
 item := by
  intro X hP hw hK hc i pins s σ H E I hf st hg
  subst hP hw hK
  obtain ⟨t, st⟩ := st
  have hg : i < x.cps.size := hg
  obtain ⟨f0, f1, f2, f3, f4, f5⟩ := hf it (by simp)
  have hx : x.cps[i]? = some (x.cps.getD i 0) := by rw [Array.getD_eq_getD_getElem?, Array.getElem?_eq_getElem hg]; rfl
  refine wpAny_pyNext_ascii_item st hx fun h2 st2 sb => ?_
  have I1 : Inv X pins σ H { s with heap := h2, toks := s.toks + 1 } := I.turned (fun b o hb e => (sb.2 b hb).trans e) f0 f1 f3 f4 f5
  obtain ⟨o, e, c, d⟩ := id st2
  exact ⟨_, rfl, IB (s := { s with heap := h2, toks := s.toks + 1 }) e c d (by decide) ⟨sg1 x i, H, I1, ⟨_, rfl⟩, ⟨rfl, rfl⟩, ⟨t, st2⟩, fun b hb => (hf b hb).1⟩⟩
 done := by
  intro X hP hw hK hc i pins s σ H E I hf st hg
  subst hP hw hK
  obtain ⟨t, st⟩ := st
  have hg : x.cps.size ≤ i := hg
  obtain ⟨f0, f1, f2, f3, f4, f5⟩ := hf it (by simp)
  exact wpAny_pyNext_ascii_end (I.ok.hd hc) st (Array.getElem?_eq_none hg) fun h2 eb => ⟨rfl, I.turned (t' := s.toks) (fun b o hb e => eb b o hb e) f0 f1 f3 f4 f5⟩
 self := fun _ _ _ _ _ ⟨t, st⟩ h => wpAny_pyIter_striter_ascii st h
section
variable {X : Cx} {tg : Expr}
noncomputable def iStr (tl : TE) : TI := fun σ H R => tl σ H fun v H1 => ∃ x, v = .str x ∧ x.cps.all (· < 128) = true ∧ R (Its x) H1
theorem NO {l : Expr} {tl : TE} (hl : PE X l tl) : PI X tg l (iStr tl) := by
 intro pins s σ H R I h
 refine thn (hl pins s σ H _ I h) fun v s1 zq => ?_
 obtain ⟨y, H1, I1, r1, q1⟩ := zq
 obtain ⟨x, e, asc, q⟩ := q1
 subst e
 obtain ⟨t, rfl⟩ := r1
 refine wpAny_pyIter_ascii asc ?_
 refine ⟨s1.heap.objs.size, [s1.heap.objs.size], _, _, H1, rfl, I1.kept (t' := s1.toks) fun b o e => Heap.get?_push_of_some _ e, JS x _, ⟨t, _, Heap.get?_push_size _ rfl, rfl, rfl⟩, fun b hb => ?_, q⟩
 have e : b = s1.heap.objs.size := by simpa using hb
 rw [e]
 exact I1.fpOk (Nat.le_refl _) (I1.hok.fresh (Nat.le_refl _))
end
theorem JU {te : TE} {caps : St} {x : Str} {D : Addr} {H1 : Hp} {Q : Hp → Prop} (Pv : Nat → List V → Hp → Prop) (h0 : Pv 0 [] (upd H1 D (.lst [])))
  (hs : ∀ i ys H, i < x.cps.size → ys.length = i → Pv i ys H → te (some (sg1 x i) :: caps) H (FJ x.cps.size i ys D Pv))
  (hd : ∀ ys H, ys.length = x.cps.size → Pv x.cps.size ys H → Q H) : B0 te Bw caps (Its x) D H1 Q := by
 refine ⟨fun i m ys H => m = x.cps.size - i ∧ i ≤ x.cps.size ∧ ys.length = i ∧ Pv i ys H, ⟨_, rfl, Nat.zero_le _, rfl, h0⟩, ?_⟩
 rintro i m ys H ⟨rfl, hi, hl, p⟩
 by_cases hlt : i < x.cps.size
 ·refine .inr ⟨hlt, fun v H' y => ?_⟩
  obtain ⟨e1, e2⟩ := y
  subst e1 e2
  unfold Bw
  dsimp only
  rw [if_pos rfl]
  exact hs i ys _ hlt hl p
 ·have e : i = x.cps.size := by lia
  subst e
  exact .inl ⟨Nat.le_refl _, hd ys H hl p⟩
noncomputable abbrev tx (l : List Nat) : Str := ⟨l.toArray⟩
theorem Bd (a b : List Nat) : tx a ++ tx b = tx (a ++ b) := by
 show (⟨a.toArray ++ b.toArray⟩ : Str) = _
 rw [List.append_toArray]
theorem AU (l : List Nat) : (tx l).length = l.length := List.size_toArray ..
theorem GZ {a b : List Nat} : tx a = tx b ↔ a = b := ⟨fun h => by injection h with h; injection h, fun h => by rw [h]⟩
theorem LS (x : Str) : x = tx x.cps.toList := by cases x; rfl
theorem JQ (x : Str) {a b : Nat} (h : a ≤ b) (hb : b ≤ x.length) : Txt.slice x (some (a : Int)) (some (b : Int)) = tx ((x.cps.toList.drop a).take (b - a)) := StrLaws.sliceText_nat x h hb
theorem sl_ix {lo : Option Int} {n i : Nat} : Builtin.Str.strSliceIndices lo none 1 n = Builtin.Str.strSliceIndices lo (some (n : Int)) 1 n := by
 unfold Builtin.Str.strSliceIndices
 dsimp only
 simp only [if_pos (show (1 : Int) > 0 by decide)]
 rw [if_neg (by lia), show max (0 : Int) (min (n : Int) n) = n by lia]
theorem MK {hi : Option Int} {n j : Nat} : Builtin.Str.strSliceIndices (some (j : Int)) hi 1 n = Builtin.Str.strSliceIndices (some ((min j n : Nat) : Int)) hi 1 n := by
 unfold Builtin.Str.strSliceIndices
 dsimp only
 simp only [if_pos (show (1 : Int) > 0 by decide)]
 rw [if_neg (show ¬ (j : Int) < 0 by lia), if_neg (show ¬ ((min j n : Nat) : Int) < 0 by lia), show max (0 : Int) (min ((min j n : Nat) : Int) n) = max (0 : Int) (min (j : Int) n) by lia]
theorem Hh (l : List Nat) (i : Nat) : Txt.slice (tx l) (some (i : Int)) none = tx (l.drop i) := by
 have h : Txt.slice (tx l) (some (i : Int)) none = Txt.slice (tx l) (some ((min i (tx l).length : Nat) : Int)) (some (((tx l).length : Nat) : Int)) := by
  unfold Txt.slice
  rw [sl_ix (i := 0), MK]
 rw [h, JQ _ (Nat.min_le_right ..) (Nat.le_refl _), AU]
 refine GZ.mpr ?_
 show List.take (l.length - min i l.length) (List.drop (min i l.length) l) = _
 by_cases hi : i ≤ l.length
 ·rw [Nat.min_eq_left hi, List.take_of_length_le (by rw [List.length_drop]; lia)]
 ·rw [Nat.min_eq_right (by lia), List.drop_eq_nil_of_le (Nat.le_refl _), List.drop_eq_nil_of_le (by lia), List.take_nil]
noncomputable def Bj (n : Nat) : List Nat := (Nat.toDigits 10 n).map Char.toNat
noncomputable def dec (i : Int) : List Nat := if i < 0 then 45 :: Bj i.natAbs else Bj i.natAbs
theorem Ku (n : Nat) : Str.ofString (toString n) = tx (Bj n) := by
 show Str.ofString (Nat.repr n) = _
 rw [Nat.repr_eq_ofList_toDigits, W.Fast.ofString_ofList]
 rfl
theorem A9 (i : Int) : Str.ofString (toString i) = tx (dec i) := by
 cases i with
 | ofNat n =>
  show Str.ofString (toString n) = _
  rw [Ku]
  rfl
 | negSucc n =>
  show Str.ofString ("-" ++ toString (n + 1)) = _
  have : ("-" ++ toString (n + 1) : String) = String.ofList ('-' :: Nat.toDigits 10 (n + 1)) := by
   show "-" ++ Nat.repr (n + 1) = _
   rw [Nat.repr_eq_ofList_toDigits, ← String.ofList_append]
   rfl
  have e : dec (.negSucc n) = 45 :: Bj (n + 1) := if_pos (Int.negSucc_lt_zero n)
  rw [this, W.Fast.ofString_ofList, e]
  rfl
theorem C6 {n : Nat} (h : n < 10) : Bj n = [48 + n] := by
 unfold Bj
 rw [Nat.toDigits_of_lt_base h, List.map_cons, Nat.toNat_digitChar_of_lt_ten h]
 rfl
theorem Dx {n : Nat} (h : 10 ≤ n) : Bj n = Bj (n / 10) ++ [48 + n % 10] := by
 unfold Bj
 rw [Nat.toDigits_of_base_le (by decide) h, List.map_append, List.map_cons, Nat.toNat_digitChar_of_lt_ten (Nat.mod_lt _ (by decide))]
 rfl
theorem BC (n : Nat) : NumText.AllDigits (Bj n) := by
 induction n using Nat.strongRecOn with
 | _ n ih =>
  by_cases h : n < 10
  ·rw [C6 h]
   intro c hc
   rw [List.mem_singleton.mp hc]
   lia
  ·rw [Dx (by lia)]
   intro c hc
   rcases List.mem_append.mp hc with z | z
   ·exact ih (n / 10) (by lia) c z
   ·rw [List.mem_singleton.mp z]
    lia
theorem Dk (n : Nat) : NumText.digitsVal (Bj n) = n := by
 induction n using Nat.strongRecOn with
 | _ n ih =>
  by_cases h : n < 10
  ·rw [C6 h]
   show 0 * 10 + (48 + n - 48) = n
   lia
  ·rw [Dx (by lia)]
   have := ih (n / 10) (by lia)
   unfold NumText.digitsVal at this ⊢
   rw [List.foldl_append, this]
   show n / 10 * 10 + (48 + n % 10 - 48) = n
   lia
theorem JR {n : Nat} (h : n ≠ 0) : ∃ c r, Bj n = c :: r ∧ 49 ≤ c ∧ c ≤ 57 := by
 induction n using Nat.strongRecOn with
 | _ n ih =>
  by_cases h1 : n < 10
  ·exact ⟨_, _, C6 h1, by lia, by lia⟩
  ·obtain ⟨c, r, e, h2, h3⟩ := ih (n / 10) (by lia) (by lia)
   exact ⟨c, r ++ [48 + n % 10], by rw [Dx (by lia), e]; rfl, h2, h3⟩
theorem G3 {n k : Nat} (hk : 0 < k) : (Bj n).length ≤ k ↔ n < 10 ^ k := by
 unfold Bj
 rw [List.length_map]
 exact Nat.length_toDigits_le_iff (by decide) hk
theorem F6 (i : Int) : ∀ c ∈ dec i, c = 45 ∨ 48 ≤ c ∧ c ≤ 57 := fun c hc => by
 unfold dec at hc
 split at hc
 ·rcases List.mem_cons.mp hc with z | z
  ·exact .inl z
  ·exact .inr (BC _ c z)
 ·exact .inr (BC _ c hc)
theorem Kn {i : Int} {k : Nat} (hk : 0 < k) (h : i.natAbs < 10 ^ k) : (dec i).length ≤ k + 1 := by
 have := (G3 hk).mpr h
 unfold dec
 split
 ·rw [List.length_cons]; lia
 ·lia
theorem G6 {a b : Nat} (h : Bj a = Bj b) : a = b := by rw [← Dk a, h, Dk]
theorem KY {a b : Int} (h : dec a = dec b) : a = b := by
 have nm : ∀ n (r : List Nat), Bj n ≠ 45 :: r := fun n r z => by
  have := BC n 45 (by rw [z]; exact List.mem_cons_self)
  lia
 unfold dec at h
 by_cases ha : a < 0
 ·rw [if_pos ha] at h
  by_cases hb : b < 0
  ·rw [if_pos hb] at h
   have := G6 (List.cons.inj h).2
   lia
  ·rw [if_neg hb] at h
   exact absurd h.symm (nm _ _)
 ·rw [if_neg ha] at h
  by_cases hb : b < 0
  ·rw [if_pos hb] at h
   exact absurd h (nm _ _)
  ·rw [if_neg hb] at h
   have := G6 h
   lia
noncomputable def FP (l : List Nat) : Bool := l.head? == some 45
noncomputable def bare (l : List Nat) : List Nat := if FP l then l.drop 1 else l
noncomputable def rdN (l : List Nat) : Option Int :=
 if l = [48] then some 0
 else if 1 ≤ (bare l).length ∧ (bare l).length ≤ 9 ∧ (∀ c ∈ bare l, 48 ≤ c ∧ c ≤ 57) ∧ (bare l).head? ≠ some 48 then some (if FP l then -(NumText.digitsVal (bare l) : Int) else NumText.digitsVal (bare l))
 else none
theorem GP {i : Int} (h : i.natAbs ≤ 999999999) : rdN (dec i) = some i := by
 unfold rdN
 by_cases h0 : i = 0
 ·rw [h0]; rfl
 have hn : i.natAbs ≠ 0 := by lia
 obtain ⟨c, r, e, h1, h2⟩ := JR hn
 have hl : (Bj i.natAbs).length ≤ 9 := (G3 (by decide)).mpr (by lia)
 have hd : dec i ≠ [48] := fun z => by
  have : dec i = dec 0 := z
  exact h0 (KY this)
 rw [if_neg hd]
 by_cases hi : i < 0
 ·have ed : dec i = 45 :: Bj i.natAbs := if_pos hi
  have eb : bare (dec i) = Bj i.natAbs := by rw [ed]; rfl
  have en : FP (dec i) = true := by rw [ed]; rfl
  rw [eb, if_pos ⟨by rw [e]; simp, hl, BC _, by rw [e]; simp; lia⟩, if_pos en, Dk]
  congr 1
  lia
 ·have ed : dec i = Bj i.natAbs := if_neg hi
  have en : FP (dec i) = false := by
   rw [ed, e]
   show (some c == some 45) = false
   simp
   lia
  have eb : bare (dec i) = Bj i.natAbs := by unfold bare; rw [en, if_neg (by decide), ed]
  rw [eb, if_pos ⟨by rw [e]; simp, hl, BC _, by rw [e]; simp; lia⟩, en, if_neg (by decide), Dk]
  congr 1
  lia
theorem En (l : List Nat) (c : Nat) : (decide (0 + (tx [c]).length ≤ (tx l).length) && Builtin.Str.subAt (tx l) (tx [c]) 0) = (l.head? == some c) := by
 cases l with
 | nil => rfl
 | cons a r =>
  have h : Builtin.Str.subAt (tx (a :: r)) (tx [c]) 0 = (a == c) := by
   unfold Builtin.Str.subAt
   have e : ((tx (a :: r)).cps.extract 0 (0 + (tx [c]).length)) = #[a] := by
    apply Array.toList_inj.mp
    rw [Array.toList_extract]
    rfl
   rw [e]
   by_cases z : a = c
   ·subst z; simp
   ·rw [show (a == c) = false by simpa using z]
    simpa using z
  rw [h, decide_eq_true (by rw [AU, AU]; simp), Bool.true_and]
  show (a == c) = (some a == some c)
  simp
theorem OY (l : List Nat) (c : Nat) : (!(Builtin.Str.occurrences (tx l) (tx [c]) 0 (tx l).length 1).isEmpty) = decide (c ∈ l) := StrLaws.found_one (tx l) c
noncomputable def Bi (c : Nat) : List Nat → List (List Nat)
 | [] => [[]]
 | a :: r => if a = c then [] :: Bi c r else match Bi c r with
  | [] => [[a]]
  | p :: ps => (a :: p) :: ps
noncomputable def A3 (s : List Nat) : List (List Nat) → List Nat
 | [] => []
 | [y] => y
 | y :: z :: ys => y ++ (s ++ A3 s (z :: ys))
theorem A5 {s y : List Nat} {ys : List (List Nat)} (h : ys ≠ []) : A3 s (y :: ys) = y ++ (s ++ A3 s ys) := by
 cases ys with
 | nil => exact absurd rfl h
 | cons z r => rfl
theorem D5 {c : Nat} : ∀ {l : List Nat}, c ∉ l → Bi c l = [l]
 | [], _ => rfl
 | a :: r, h => by
  have ha : a ≠ c := fun z => h (by rw [z]; exact List.mem_cons_self)
  have hr := D5 (l := r) fun z => h (List.mem_cons_of_mem _ z)
  unfold Bi
  rw [if_neg ha, hr]
theorem Ce {c : Nat} : ∀ {p l : List Nat}, c ∉ p → Bi c (p ++ c :: l) = p :: Bi c l
 | [], l, _ => by
  rw [List.nil_append]
  conv => lhs; unfold Bi
  rw [if_pos rfl]
 | a :: r, l, h => by
  have ha : a ≠ c := fun z => h (by rw [z]; exact List.mem_cons_self)
  have hr := Ce (p := r) (l := l) fun z => h (List.mem_cons_of_mem _ z)
  rw [List.cons_append]
  conv => lhs; unfold Bi
  rw [if_neg ha, hr]
theorem HG {c : Nat} : ∀ {ps : List (List Nat)}, ps ≠ [] → (∀ p ∈ ps, c ∉ p) → Bi c (A3 [c] ps) = ps
 | [], h, _ => absurd rfl h
 | [p], _, f => D5 (f p (by simp))
 | p :: q :: ps, _, f => by
  rw [A5 (by simp), List.singleton_append, Ce (f p (by simp)), HG (by simp) fun x hx => f x (List.mem_cons_of_mem _ hx)]
theorem E6 (s : List Nat) : ∀ (ys : List Str) (a : Array Nat), (ys.foldl (fun acc p => acc ++ (tx s).cps ++ p.cps) a).toList = a.toList ++ (ys.map fun y => s ++ y.cps.toList).flatten
 | [], a => by simp
 | y :: ys, a => by
  rw [List.foldl_cons, E6 s ys]
  simp
theorem IC (s : List Nat) (ys : List (List Nat)) : Txt.join (tx s) (ys.map tx) = tx (A3 s ys) := by
 have aux : ∀ (y : List Nat) (ys : List (List Nat)), y ++ ((ys.map tx).map fun y => s ++ y.cps.toList).flatten = A3 s (y :: ys) := by
  intro y ys
  induction ys generalizing y with
  | nil => simp [A3]
  | cons z ys ih =>
   rw [A5 (by simp), ← ih z]
   simp
 cases ys with
 | nil => rfl
 | cons y ys =>
  show (⟨List.foldl (fun acc p => acc ++ (tx s).cps ++ p.cps) (tx y).cps (ys.map tx)⟩ : Str) = _
  refine (LS _).trans (GZ.mpr ?_)
  show (List.foldl (fun acc p => acc ++ (tx s).cps ++ p.cps) (tx y).cps (ys.map tx)).toList = _
  rw [E6]
  exact aux y ys
theorem KU (c : Nat) (l : List Nat) : Txt.split (tx l) (tx [c]) = (Bi c l).map tx := by
 have h1 := StrLaws.join_split (tx l) (tx [c])
 have h2 := fun p => StrLaws.split_free (tx l) c p
 have hne : Txt.split (tx l) (tx [c]) ≠ [] := by
  unfold Txt.split
  split
  ·simp
  ·split
   ·simp
   ·intro z
    have := PyProof.Rows.len_partsBetween (tx l) (Builtin.Str.occurrences (tx l) (tx [c]) 0 (tx l).length ((tx l).length + 1)) (tx [c]).length
    rw [z] at this
    simp at this
 generalize Txt.split (tx l) (tx [c]) = ps at *
 have e : ps = (ps.map fun p => p.cps.toList).map tx := by
  rw [List.map_map]
  conv => lhs; rw [← List.map_id ps]
  refine List.map_congr_left fun p _ => ?_
  exact LS p
 have h3 : A3 [c] (ps.map fun p => p.cps.toList) = l := by
  have := h1
  rw [e] at this
  rw [show Str.join (tx [c]) ((ps.map fun p => p.cps.toList).map tx) = Txt.join (tx [c]) ((ps.map fun p => p.cps.toList).map tx) from (StrLaws.glued_eq_join ..).symm, IC] at this
  exact GZ.mp this
 rw [e, ← h3, HG]
 ·simpa using hne
 ·intro p hp
  obtain ⟨x, hx, rfl⟩ := List.mem_map.mp hp
  exact h2 x hx
section
variable {X : Cx}
noncomputable abbrev tvs (ys : List (List Nat)) : List V := ys.map fun y => V.str (tx y)
theorem Gw : ∀ {ys : List (List Nat)} {us : List Value}, AT (tvs ys) us → PyProof.Rows.StrsAre us (ys.map tx)
 | [], _, h => by cases h; exact .nil
 | y :: ys, _, h => by
  cases h with
  | cons r h =>
   obtain ⟨t, rfl⟩ := r
   exact .cons _ t (Gw h)
noncomputable def Ey (K : PySem.W.Frag) : V → List V → Hp → VK → Prop := fun x vs H Q => ∃ s l ys, x = .str (tx s) ∧ vs = [.ref l] ∧ SqL K H l (tvs ys) ∧ (ys.map List.length).sum + ys.length * s.length ≤ 16777216 ∧ Q (.str (tx (A3 s ys))) H
theorem Ed : MtR X "str.join" (Ey X.K) := by
 intro pins s σ H x vs v us Q I rx rv h
 obtain ⟨sp, l, ys, rfl, rfl, hl, hz, q⟩ := h
 obtain ⟨t, rfl⟩ := rx
 obtain ⟨u, rfl, r1⟩ := vals1 rv
 cases r1
 obtain ⟨i1, r1, t1, _⟩ := I.list hl
 refine PyProof.Rows.join_list t1.isList (by simpa using Gw r1) ?_ fun t' k => ?_
 ·rw [List.map_map, List.length_map, AU, show ((fun x : Str => x.length) ∘ tx) = List.length from funext fun y => AU y]
  exact hz
 ·refine ⟨.str _, H, I.tok _, ⟨_, rfl⟩, ?_⟩
  rw [IC]
  exact q
theorem Fs : ∀ (k : Nat) (ys : List (List Nat)), AT (tvs ys) (strsFrom k (ys.map tx))
 | _, [] => .nil
 | k, y :: ys => .cons ⟨k, rfl⟩ (Fs (k + 1) ys)
noncomputable def KP : V → List V → Hp → VK → Prop := fun x vs H Q => ∃ l c, x = .str (tx l) ∧ vs = [.str (tx [c])] ∧ l.length < sizeLine ∧ ∀ p H', H p = none → AH H H' → H' p = some (.lst (tvs (Bi c l))) → Q (.ref p) H'
theorem Gz (c : Nat) : ∀ l : List Nat, (Bi c l).length ≤ l.length + 1
 | [] => by simp [Bi]
 | a :: r => by
  have := Gz c r
  unfold Bi
  split
  ·simp only [List.length_cons]; lia
  ·split
   ·simp
   ·rename_i p ps e
    rw [e] at this
    simp only [List.length_cons] at *
    lia
theorem KA : MtR X "str.split" KP := by
 intro pins s σ H x vs v us Q I rx rv h
 obtain ⟨l, c, rfl, rfl, hz, q⟩ := h
 obtain ⟨t, rfl⟩ := rx
 obtain ⟨u, rfl, t', rfl⟩ := vals1 rv
 have hf : H s.heap.objs.size = none := I.hok.fresh (Nat.le_refl _)
 have hcl := Gz c l
 have sp := KU c l
 by_cases h1 : (decide ((tx l).length < (tx [c]).length) || decide (Builtin.Str.strKind (tx l) < Builtin.Str.strKind (tx [c]))) = true
 ·refine call_meets F.slot_str_split (typeIs_str _ _ _) F.entry_str_split (F.args_str_split_2 _ _) (meets_str_split_cannot_occur _ _ _ _ h1) ?_
  have e : [tx l] = (Bi c l).map tx := by rw [← sp]; unfold Txt.split; rw [if_pos h1]
  refine ⟨.ref s.heap.objs.size, upd H s.heap.objs.size (.lst (tvs (Bi c l))), I.laid (t' := s.toks) (fun b u e => Heap.get?_push_of_some _ e) (Nat.le_refl _) ⟨by rw [List.length_map]; lia, [Value.str (tx l) t], 0, ?_, Heap.get?_push_size _ rfl⟩, rfl, q _ _ hf (AZ hf) AI⟩
  have e2 : Bi c l = [l] := by
   have := congrArg (List.map fun p : Str => p.cps.toList) e
   rw [List.map_map, show ((fun p : Str => p.cps.toList) ∘ tx) = id from rfl, List.map_id] at this
   exact this.symm
  rw [e2]
  exact .cons ⟨t, rfl⟩ .nil
 ·have h1' := Bool.eq_false_iff.mpr h1
  by_cases h2 : (Builtin.Str.occurrences (tx l) (tx [c]) 0 (tx l).length ((tx l).length + 1)).isEmpty = true
  ·refine call_meets F.slot_str_split (typeIs_str _ _ _) F.entry_str_split (F.args_str_split_2 _ _) (meets_str_split_not_found _ _ _ _ h1' rfl h2) ?_
   have e : [tx l] = (Bi c l).map tx := by rw [← sp]; unfold Txt.split; rw [if_neg h1, if_pos h2]
   refine ⟨.ref s.heap.objs.size, upd H s.heap.objs.size (.lst (tvs (Bi c l))), I.laid (t' := s.toks) (fun b u e => Heap.get?_push_of_some _ e) (Nat.le_refl _) ⟨by rw [List.length_map]; lia, [Value.str (tx l) t], 0, ?_, Heap.get?_push_size _ rfl⟩, rfl, q _ _ hf (AZ hf) AI⟩
   have e2 : Bi c l = [l] := by
    have := congrArg (List.map fun p : Str => p.cps.toList) e
    rw [List.map_map, show ((fun p : Str => p.cps.toList) ∘ tx) = id from rfl, List.map_id] at this
    exact this.symm
   rw [e2]
   exact .cons ⟨t, rfl⟩ .nil
  ·have h2' := Bool.eq_false_iff.mpr h2
   have e : Builtin.Str.partsBetween (tx l) (Builtin.Str.occurrences (tx l) (tx [c]) 0 (tx l).length ((tx l).length + 1)) (tx [c]).length = (Bi c l).map tx := by
    rw [← sp]; unfold Txt.split; rw [if_neg h1, if_neg h2]
   refine call_meets F.slot_str_split (typeIs_str _ _ _) F.entry_str_split (F.args_str_split_2 _ _) (meets_str_split_sep _ _ _ _ h1' rfl h2' (by rw [AU]; lia) (by rw [e, List.length_map]; lia)) ?_
   rw [e]
   exact ⟨.ref s.heap.objs.size, upd H s.heap.objs.size (.lst (tvs (Bi c l))), I.laid (fun b u e => Heap.get?_push_of_some _ e) (Nat.le_refl _) ⟨by rw [List.length_map]; lia, _, 0, Fs _ _, Heap.get?_push_size _ rfl⟩, rfl, q _ _ hf (AZ hf) AI⟩
theorem o_fig : Str.ofString "0123456789" = tx [48, 49, 50, 51, 52, 53, 54, 55, 56, 57] := by rfl
theorem KJ {K : PySem.W.Frag} (h : X.K = K) : MtR X "str.join" (Ey K) := h ▸ Ed
end
theorem Ga {K : PySem.W.Frag} {a : Addr} {xs : List V} {te : TE} {caps : St} {D : Addr} {H1 : Hp} {Q : Hp → Prop} (hz : xs.length ≤ sizeLine) (hD : H1 D = none) (ht : SqT K H1 a xs) (f : V → V)
  (hs : ∀ x H (R : VK), x ∈ xs → AH H1 H → R (f x) H → te (some x :: caps) H R)
  (hd : ∀ H, AH H1 H → H D = some (.lst (xs.map f)) → Q H) : B0 te Bw caps (Itt K a) D H1 Q := by
 refine ⟨fun i m ys H => m = xs.length - i ∧ i ≤ xs.length ∧ AH H1 H ∧ H D = some (.lst ys) ∧ ys = (xs.take i).map f, ⟨xs.length, rfl, Nat.zero_le _, AZ hD, AI, rfl⟩, ?_⟩
 rintro i m ys H ⟨rfl, hi, s1, e1, e2⟩
 have q := s1.tup ht
 have hy : ys.length = i := by rw [e2, List.length_map, List.length_take]; lia
 by_cases hlt : i < xs.length
 ·refine .inr ⟨⟨xs, xs[i], q, by simp [hlt]⟩, fun v H' y => ?_⟩
  obtain ⟨e, y⟩ := y
  subst e
  have hx := y xs q
  unfold Bw
  dsimp only
  rw [if_pos rfl]
  refine hs v _ _ (List.mem_of_getElem? hx) s1 ?_
  refine ⟨e1, by lia, _, by lia, rfl, hlt, s1.updFresh hD, AI, ?_⟩
  rw [List.take_succ, hx, List.map_append, e2]; rfl
 ·have e : i = xs.length := by lia
  subst e
  rw [List.take_length] at e2
  subst e2
  exact .inl ⟨⟨xs, q, by simp⟩, hd H s1 e1⟩
section
variable {X : Cx} {tg : Expr}
noncomputable def iSeq (K : PySem.W.Frag) (tl : TE) : TI := fun σ H R => EH K tl σ H R ∨ PY K tl σ H R
theorem Mi {l : Expr} {tl : TE} (hl : PE X l tl) : PI X tg l (iSeq X.K tl) := fun pins s σ H R I h => h.elim (Cj hl pins s σ H R I) (Jp hl pins s σ H R I)
end
theorem K4 {K : PySem.W.Frag} {ns : List Int} {te : TE} {caps : St} {D : Addr} {H1 : Hp} {Q : Hp → Prop} {J : It} (hJ : (∃ a, J = Itl K a ∧ SqL K H1 a (ns.map V.int)) ∨ ∃ a, J = Itt K a ∧ SqT K H1 a (ns.map V.int)) (hz : ns.length ≤ 1000000) (hD : H1 D = none)
  (hs : ∀ n H (R : VK), n ∈ ns → AH H1 H → R (.str (tx (dec n))) H → te (some (.int n) :: caps) H R)
  (hd : ∀ H, AH H1 H → H D = some (.lst (tvs (ns.map dec))) → Q H) : B0 te Bw caps J D H1 Q := by
 let f : V → V := fun v => match v with | .int n => .str (tx (dec n)) | v => v
 have ef : (ns.map V.int).map f = tvs (ns.map dec) := by rw [List.map_map, tvs, List.map_map]; rfl
 have hl : (ns.map V.int).length ≤ sizeLine := by rw [List.length_map, PySem.sizeLine_eq]; lia
 have hs' : ∀ x H (R : VK), x ∈ ns.map V.int → AH H1 H → R (f x) H → te (some x :: caps) H R := fun x H R hx s hR => by
  obtain ⟨n, hn, rfl⟩ := List.mem_map.mp hx
  exact hs n H R hn s hR
 rcases hJ with ⟨a, rfl, h⟩ | ⟨a, rfl, h⟩
 ·exact FL hl hD h f hs' fun H s e => hd H s (by rw [e, ef])
 ·exact Ga hl hD h f hs' fun H s e => hd H s (by rw [e, ef])
end L2
namespace TG
open PySem L2 PySem.W
noncomputable def K8 (K : Frag) (l : List Addr) : Prop := ∀ (i j : Nat) (a b : Addr), l[i]? = some a → l[j]? = some b → exmOne K (.ref a) (.ref b) = some (decide (i = j))
noncomputable def KM (K : Frag) (ns : List Str) : Bool := ns.zipIdx.all fun p => ns.zipIdx.all fun q => N0 K p.1 q.1 == some (decide (p.2 = q.2))
noncomputable abbrev Kq (K : Frag) : List Str → List Addr → Prop := Paired fun n C => nsIn K mainGlobals n = some (some (.ref C))
theorem KR {K : Frag} {ns : List Str} {l : List Addr} (h : Kq K ns l) (e : KM K ns = true) : K8 K l := fun i j a b ha hb => by
 obtain ⟨n, hn, na⟩ := Paired.get h ha
 obtain ⟨m, hm, nb⟩ := Paired.get h hb
 unfold KM at e
 rw [List.all_eq_true] at e
 have e1 := e (n, i) (List.mem_zipIdx_iff_getElem?.mpr hn)
 rw [List.all_eq_true] at e1
 have e2 := e1 (m, j) (List.mem_zipIdx_iff_getElem?.mpr hm)
 exact K3 na nb (beq_iff_eq.mp e2)
theorem Jz {K : Frag} {l : List Addr} (h : K8 K l) {a : Addr} {D : DC} {σ : St} {H : Hp} {c : Value} {th : TS} (k : th D σ H) : ∀ (ths : List (Value × TS)) (j m : Nat), (∀ n p, ths[n]? = some p → ∃ b, l[j + n]? = some b ∧ p.1 = .ref b) → ths[m]? = some (c, th) → l[j + m]? = some a → tHs K ths (.ref a) D σ H
 | [], _, _, _, ht, _ => by simp at ht
 | (c0, t0) :: r, j, m, hj, ht, hi => by
  obtain ⟨b, hb, eb⟩ := hj 0 _ rfl
  cases eb
  refine ⟨_, h _ _ a b hi hb, ?_⟩
  cases m with
  | zero =>
   rw [if_pos (decide_eq_true rfl)]
   cases ht
   exact k
  | succ m =>
   rw [if_neg (fun z => by have := of_decide_eq_true z; lia)]
   refine Jz h k r (j + 1) m (fun n p hp => ?_) ht ?_
   ·rw [show j + 1 + n = j + (n + 1) by lia]
    exact hj (n + 1) p hp
   ·rw [show j + 1 + m = j + (m + 1) by lia]
    exact hi
theorem Al {K : Frag} {l : List Addr} (h : K8 K l) (i : Nat) {a : Addr} (hi : l[i]? = some a) {ths : List (Value × TS)} {D : DC} {σ : St} {H : Hp} {c : Value} {th : TS} (hm : ths.map Prod.fst = (l.take ths.length).map Value.ref) (ht : ths[i]? = some (c, th)) (k : th D σ H) : tHs K ths (.ref a) D σ H := by
 refine Jz h k ths 0 i (fun n p hp => ?_) ht (by rw [Nat.zero_add]; exact hi)
 have e := congrArg (·[n]?) hm
 simp only [List.getElem?_map, hp, Option.map_some] at e
 rw [Nat.zero_add]
 obtain ⟨b, hb, eb⟩ := Option.map_eq_some_iff.mp e.symm
 rw [List.getElem?_take] at hb
 split at hb
 ·exact ⟨b, hb, eb.symm⟩
 ·cases hb
end TG
namespace L2
open PySem
open PySem.Spec PyProof.Rows
section
variable {X : Cx}
end
section
variable {X : Cx}
end
end L2
namespace TG
open PySem L2
end TG
namespace L2
open PySem PySem.Spec PyProof.Rows
structure HQ (P : Params) (K : PySem.W.Frag) (mg : Str → Option Value) (R : Addr) (fs : List (Str × Str)) : Prop where
 look : ∃ es n, K.lookup R = some ⟨.type "dict", none, .dict es n, #[]⟩ ∧ PySem.W.KeysLit P es.toList ∧ ∀ x, findBy Value.isStrOf es x = (fs.lookup x).bind mg
 low : (R == sysModules) = false
noncomputable def LQ (mg : Str → Option Value) (fs : List (Str × Str)) (ty : TE) : TE := fun σ H Q => ty σ H fun y H1 => ∃ x, y = .str x ∧ match fs.lookup x with
 | none => Q .non H1
 | some n => ∃ f, mg n = some (.ref f) ∧ Q (.ref f) H1
section
variable {X : Cx} {x : Str} {R : Addr} {fs : List (Str × Str)} {e : Expr} {ty : TE} {p apos cpos : Pos}
theorem K9 (q : HQ X.w.params X.K X.mg R fs) (hg : Gl X x) (hm : X.mg x = some (.ref R)) (he : PE X e ty) (m : M1 X (.Name x p) "get" apos e cpos) (hd : (x == ("__debug__" : Str)) = false := by decide) :
  PE X (.Call (.Attribute (.Name x p) "get" apos) [e] [] cpos) (LQ X.mg fs ty) := by
 intro pins s σ H Q I h
 obtain ⟨es, n, hl, hk, hf⟩ := q.look
 refine wpAny_Call_method m.base m.few m.line PySem.F.plainAttrs_dict PySem.F.slot_dict_get PySem.F.type_dict_get (CH I hg hm ?_ hd)
 refine ⟨(PySem.W.mapOf_K (prog := X.prog) I.kIn hl hk).typeIs, fun b z => ?_, ?_⟩
 ·cases z; exact ⟨_, I.kIn _ _ hl, rfl⟩
 rw [m.trees]
 refine Calls.callWith_builtin rfl (Calls.evalArgs_plain (Calls.spliced_cons (thn (he pins s σ H _ I h) fun iv s2 ⟨y, H2, I2, ry, x', ex, q2⟩ => Calls.spliced_nil ?_)))
 subst ex
 obtain ⟨t, rfl⟩ := ry
 have hm2 := PySem.W.mapOf_K (prog := X.prog) I2.kIn hl hk
 refine call_meetsIn PySem.F.slot_dict_get hm2.typeIs PySem.F.entry_dict_get (PySem.F.args_dict_get_2 _ _) (meets_dict_get (strKind X.prog X.w) R (strKind_is X.prog X.w x' t) q.low) ⟨_, hm2, ?_⟩
 show EP X pins σ Q ((findBy Value.isStrOf es x').getD .none) _
 rw [hf]
 cases hz : fs.lookup x' with
 | none =>
  rw [hz] at q2
  exact ⟨.non, H2, I2.tok _, rfl, q2⟩
 | some nm =>
  rw [hz] at q2
  obtain ⟨f, h1, h2⟩ := q2
  refine ⟨.ref f, H2, I2.tok _, ?_, h2⟩
  rw [show (some nm).bind X.mg = X.mg nm from rfl, h1]
  exact rfl
end
noncomputable def Hr (tab : List (Addr × Sp)) (E : XK) (tv : TE) (t : TA) : TE := fun σ H Q => tv σ H fun v H1 => ∃ p, p ∈ tab ∧ v = .ref p.1 ∧ t σ H1 fun vs H2 => p.2 vs H2 Q E
structure Fv (P : Program) (w : World) (K : PySem.W.Frag) (mg : Str → Option Value) (base : Heap) (CX : CXT) (k : Nat) (tab : List (Addr × Sp)) : Prop where
 all : ∀ p ∈ tab, ∃ fd ps, Ad P w K mg base CX k p.1 fd ps p.2 ∧ PySem.W.keepIn K (.ref p.1) = true ∧ Binds K fd ps []
theorem Fv.nil {P : Program} {w : World} {K : PySem.W.Frag} {mg : Str → Option Value} {base : Heap} {CX : CXT} {k : Nat} : Fv P w K mg base CX k [] := ⟨fun _ h => absurd h (by simp)⟩
theorem Fv.cons {P : Program} {w : World} {K : PySem.W.Frag} {mg : Str → Option Value} {base : Heap} {CX : CXT} {j k : Nat} {tab : List (Addr × Sp)} {x : Str} {st : Stmt} {ps : List Str} {f : Addr} {fd : FuncData} {sp : Sp} (d : D K mg x st ps f fd) (F : Ad P w K mg base CX j f fd ps sp) (h : Fv P w K mg base CX k tab) (hj : j ≤ k := by decide) : Fv P w K mg base CX k ((f, sp) :: tab) := ⟨fun p hp => by
 rcases List.mem_cons.mp hp with rfl | hp
 ·exact ⟨fd, ps, F.mono hj, d.F.kp, d.b⟩
 ·exact h.all p hp⟩
section
variable {X : Cx} {CX : CXT} {k : Nat} {E : XK} {x : Str} {p pos : Pos} {e : Expr} {es : List Expr} {tv : TE} {t : TA} {tab : List (Addr × Sp)}
theorem KQ (hT : Fv X.prog X.w X.K X.mg X.base CX k tab) (hr : A1 k X.A) (hx : Ba CX X E) (hv : PE X (.Name x p) tv) (ha : PA X (e :: es) t)
  (he : starEach (e :: es) X.env = (false, eval e X.env) :: starEach es X.env := by rfl) (hpl : (backTo pos (starEach es X.env)).any (·.1) = false := by rfl) :
  PE X (.Call (.Name x p) (e :: es) [] pos) (Hr tab E tv t) := by
 intro pins s σ H Q I h
 refine wpAny_Call_Name_kw (thn (hv pins s σ H _ I h) fun u s0 zq => ?_)
 obtain ⟨v, H0, I0, r0, pr, hm, ev, q0⟩ := zq
 subst ev
 obtain rfl : u = Value.ref pr.1 := r0
 obtain ⟨fd, ps, F, hk, hb⟩ := hT.all pr hm
 refine PySem.W.callWith_K (h₀ := X.base) I0.ok.mod.kin hk (thn (ha pos pins s0 σ H0 _ I0 q0) fun us s1 ⟨vs, H1, I1, r, q⟩ => ⟨I1.kIn, ?_⟩) he hpl
 exact GA F hr hb .nil hx I1 r (by rw [List.append_nil]; exact q)
end
end L2
namespace TG
open PySem PySem.W PySem.Calls L2
theorem Jx {p q : Program} {loose : List Str} {β : Type} {Yf : Shared → β} {obs : SharedT → β} {v : World → β} {N M : Nat}
  (e : opening p = plainProg p.main.scope.names) (hN : Nat.ble 600 N = true) (f : ∀ s, fenceModules? p s = some s) (le : Nat.ble M N = true) (hY : ∀ s : SharedT, Yf s.abs = obs s)
  (run : ∀ (w : World) (os : OsState), ED p q loose obs M w os = some (true, openGood q loose, v w)) : LeftO p q loose (fun _ => true) Yf v N := fun w => by
 have open_ := boot_open e hN f w
 obtain ⟨⟨h, gs, d, k, os⟩, e1, e2⟩ := Option.map_eq_some_iff.mp open_
 obtain ⟨rfl, rfl, rfl, rfl⟩ : h = boot_heap w.params ∧ gs = #[] ∧ d = boot_drawn ∧ k = boot_toks := by simpa using e2
 obtain ⟨z1, z2, z3⟩ : _ ∧ _ ∧ _ := by simpa only [Prod.mk.injEq] using JJ w.params
 obtain ⟨sT, r0, l0⟩ := Option.map_eq_some_iff.mp (run w os)
 obtain ⟨l1, l2, l3⟩ : _ ∧ _ ∧ _ := by simpa only [Je, Prod.mk.injEq] using l0
 have r1 := FH r0
 rw [Iw] at r1
 have r := topRun_mono (N - M) _ _ _ _ r1
 rw [show M + (N - M) = N by have := Nat.le_of_ble_eq_true le; lia] at r
 have t : topFrom treeTable p w N ⟨boot_heap w.params, #[], boot_drawn, boot_toks, os⟩ = some sT.abs := by
  unfold topFrom
  dsimp only
  rw [z1, z2, z3, r]
  show (match staticsOk (importedModules p.main.body) (boot_heap w.params) sT.abs.heap && namesBound p sT.abs.heap && gensDone sT.abs && laidKept (boot_heap w.params) sT.abs.heap with | true => _ | false => _) = _
  rw [l1]
 unfold openEnds
 rw [e1]
 show (topFrom treeTable p w N _).map _ = _
 rw [t]
 exact congrArg some (Prod.ext l2 ((hY sT).trans l3))
noncomputable def DG {β : Type} (as : List Addr) (obs : Frag → β) (v : World → β) (w : World) (h : Heap) : Prop := ∃ K : Frag, K.In h ∧ obs K = v w
theorem DG.of {β : Type} {as : List Addr} {obs : Frag → β} {v : World → β} (w : World) (s : Shared) (e : obs (Kof as s.heap) = v w) : DG as obs v w s.heap := ⟨_, MO _ _, e⟩
theorem DG.keeps {β : Type} {as : List Addr} {obs : Frag → β} {v : World → β} (w : World) (h h' : Heap) (x : DG as obs v w h) (k : ∀ b o, h.get? b = some o → h'.get? b = some o) : DG as obs v w h' := x.imp fun _ z => ⟨z.1.keeps k, z.2⟩
theorem Jb {l : PySem.W.OpenLaw} {n k : Nat} {q : Program} {loose : List Str} {XP : (Str → Option Value) → Heap → Prop} {β : Type} {as : List Addr} {obs : Frag → β} {v : World → β} {d : DefRec} {CX : CXT} {sp : Frag → Sp} {x : Str}
  (hn : l.most = some n) (hn2 : n ≤ sizeLine) (hdf : d.params.defaults = []) (hr : A1 k callerA)
  (F : ∀ (w : World) (mg : Str → Option Value) (fa : Addr) (h : Heap) (K : Frag), obs K = v w → K.In h → h.Ns mainGlobals mg → mg d.name = some (.ref fa) →
   ∃ fd : FuncData, (∀ (s : Shared) (u : Value), BindsTo s fd ⟨[u], []⟩ [(x, u)]) ∧
    ∀ base : Heap, K.In base → base.Ns mainGlobals mg → Ad l.prog w K mg base CX k fa fd [x] (sp K))
  (hsp : ∀ (K : Frag) (H : Hp) (a : Addr) (ns : List Int), ns.length ≤ n → L6 H → SqL K H a (ns.map V.int) → sp K [.ref a] H (fun v _ => v = .bl true) fun _ _ _ => False)
  (hCX : ∀ (H : Hp) (s : Shared) (e : Value) (s' : Shared), CX [] H s (fun _ _ _ => False) e s' → False) :
  PySem.W.WalkO q loose XP (DG as obs v) l.row.toRowW d [] (fun f vs => PySem.call f vs) := by
 refine Att.attach_call hn hdf fun w s₀ s₁ mg mb fa o pm cd doc a vs ns G Y ho hd hcd hmg hobj hints hlen hg => ?_
 obtain ⟨K, KX, KO⟩ := Y
 obtain ⟨fd, hb, hF⟩ := F w mg fa _ K KO KX G.T.g hmg
 exact KS KX G.T.g G.T.b G.T.builtins G.T.nolimit hg hobj hints (Nat.le_trans hlen hn2) hr hF hb (fun H hO hS => hsp K H a ns hlen hO hS) fun H e s' => hCX H s₁ e s'
noncomputable def rowsOf (K : Frag) (x : Str) : List DictEntry := match nsIn K mainGlobals x with
 | some (some (.ref R)) => match K.lookup R with
  | some ⟨c, none, .dict es _, sl⟩ => match c == .type "dict" && sl.size == 0 && !(R == sysModules) with
   | true => es.toList
   | false => []
  | _ => []
 | _ => []
noncomputable def LN (K : Frag) (d : DictEntry) (f : Str × Str) : Bool := d.key.isStr f.1 && nsIn K mainGlobals f.2 == some (some d.val)
noncomputable def IK (K : Frag) : List DictEntry → List (Str × Str) → Bool
 | [], [] => true
 | d :: r, f :: fs => LN K d f && IK K r fs
 | _, _ => false
noncomputable def Mc (K : Frag) (x : Str) (fs : List (Str × Str)) : Bool := IK K (rowsOf K x) fs
noncomputable def FE (K : Frag) (x : Str) : List Int := (rowsOf K x).map (·.hash)
theorem HM {P : Params} {K : Frag} {h : Heap} {mg : Str → Option Value} (X : K.In h) (G : h.Ns mainGlobals mg) : ∀ {es : List DictEntry} {fs : List (Str × Str)}, IK K es fs = true → es.map (·.hash) = fs.map (fun f => PyData.keyHash P f.1) →
  KeysLit P es ∧ ∀ x, (es.find? fun d => Value.isStrOf x d.key).map (·.val) = (fs.lookup x).bind mg
 | [], [], _, _ => ⟨trivial, fun _ => rfl⟩
 | d :: r, f :: fs, e, eh => by
  unfold IK LN at e
  simp only [Bool.and_eq_true, beq_iff_eq] at e
  obtain ⟨⟨e1, e2⟩, e3⟩ := e
  rw [List.map_cons, List.map_cons] at eh
  obtain ⟨h1, h2⟩ := List.cons.inj eh
  obtain ⟨k1, k2⟩ := HM X G e3 h2
  rw [isStr_of] at e1
  obtain ⟨t, et⟩ := Value.isStrOf_shape e1
  refine ⟨⟨⟨f.1, t, et, h1⟩, k1⟩, fun x => ?_⟩
  rw [List.find?_cons]
  obtain ⟨fk, fv⟩ := f
  dsimp only at et e2 e1
  by_cases hx : x = fk
  ·subst hx
   rw [e1, List.lookup_cons_self]
   show some d.val = mg fv
   exact (mg_of X G e2).symm
  ·have n : Value.isStrOf x d.key = false := by
    rw [et]
    exact beq_eq_false_iff_ne.mpr fun z => hx (by first | exact z | exact z.symm)
   rw [n, List.lookup_cons, show (x == fk) = false from beq_eq_false_iff_ne.mpr hx]
   exact k2 x
 | [], _ :: _, e, _ => by cases e
 | _ :: _, [], e, _ => by cases e
theorem Kh {P : Params} {K : Frag} {h : Heap} {mg : Str → Option Value} {x : Str} {f : Str × Str} {fs : List (Str × Str)} (X : K.In h) (G : h.Ns mainGlobals mg) (e : Mc K x (f :: fs) = true) (eh : FE K x = (f :: fs).map (fun f => PyData.keyHash P f.1)) :
  ∃ R, mg x = some (.ref R) ∧ HQ P K mg R (f :: fs) := by
 unfold Mc at e
 unfold FE at eh
 obtain ⟨h1, h2⟩ := HM X G e eh
 generalize hr : rowsOf K x = es at *
 unfold rowsOf at hr
 split at hr
 ·rename_i R hR
  split at hr
  ·rename_i c es0 n sl hl
   split at hr
   ·rename_i hc
    simp only [Bool.and_eq_true, beq_iff_eq, Bool.not_eq_true'] at hc
    obtain ⟨⟨rfl, hs⟩, hlow⟩ := hc
    obtain rfl : sl = #[] := Array.eq_empty_of_size_eq_zero hs
    subst hr
    refine ⟨R, mg_of X G hR, ⟨⟨es0, n, hl, h1, fun y => ?_⟩, hlow⟩⟩
    rw [← h2 y]
    unfold findBy
    rw [← Array.find?_toList]
   ·subst hr; cases e
  ·subst hr; cases e
 ·subst hr; cases e
end TG
namespace L2
open PySem PySem.Spec PyProof.Rows
noncomputable def LO (a : Str) (te : TE) : TE := fun σ H Q => te σ H fun v H1 => ∃ n, v = .int n ∧ n.natAbs.log2 < 1920 ∧ a.length + (Str.ofString (toString n)).length ≤ sizeLine ∧ Q (.str (a ++ Str.ofString (toString n))) H1
theorem Kj {X : Cx} {a : Str} {e : Expr} {te : TE} {j : Nat} {p1 p2 p3 : Pos} (he : PE X e te) (ha : a.length ≤ sizeLine := by decide +kernel) : PE X (.JoinedStr [.Constant (.str a) j p1, .FormattedValue e (-1) none p2] p3) (LO a te) := by
 intro pins s σ H Q I h
 refine wpAny_JoinedStr ?_
 show Joins _ _ _ [eval _ X.env, eval _ X.env] _ _ _
 have e1 : Str.empty ++ a = a := by
  obtain ⟨a⟩ := a
  show Str.mk (#[] ++ a) = _
  rw [Array.empty_append]
 refine Calls.Constant_str ⟨a, _, rfl, ?_, ?_⟩
 ·rw [e1]; exact ha
 ·rw [e1]
  refine wpAny_FormattedValue_plain (thn (he pins _ σ H _ (I.tok _) h) fun u s1 zq => ?_)
  obtain ⟨v, H1, I1, r1, n, ev, hn, hz, q⟩ := zq
  subst ev
  obtain ⟨t, rfl⟩ := r1
  have hl : (a ++ Str.ofString (toString n)).length ≤ sizeLine := by rw [strLen_append]; exact hz
  exact wpAny_formatField_int hn ⟨_, _, rfl, hl, hl, ⟨.str _, H1, I1.tok _, ⟨_, rfl⟩, q⟩⟩
end L2
namespace TG
open PySem L2
noncomputable def A0 {α : Type} (f : Nat → α) (i : Nat) (x : α) : Nat → α := fun j => if j = i then x else f j
theorem AW {α : Type} {f : Nat → α} {i : Nat} {x : α} : A0 f i x i = x := if_pos rfl
theorem AJ {α : Type} {f : Nat → α} {i j : Nat} {x : α} (h : j ≠ i) : A0 f i x j = f j := if_neg h
structure Fam (C : Addr) (H : Hp) (n : Nat) (b S P : Nat → Addr) (ow : Nat → List Addr) (gs : Nat → List G) (past : Nat → List (List G)) : Prop where
 bch : ∀ i, i < n → Bch C H (b i) (S i) (P i) (ow i) (gs i) (past i)
 ne : ∀ i j, i < n → j < n → i ≠ j → b i ≠ b j ∧ ∀ a ∈ ow i, a ∉ ow j
section
variable {C : Addr} {H H' : Hp} {n : Nat} {b S P : Nat → Addr} {ow : Nat → List Addr} {gs : Nat → List G} {past : Nat → List (List G)}
theorem Fam.same (h : Fam C H n b S P ow gs past) (s : AH H H') : Fam C H' n b S P ow gs past := ⟨fun i hi => (h.bch i hi).same s, h.ne⟩
noncomputable def JG (n : Nat) (ow : Nat → List Addr) (a : Addr) (u : HO) : Prop := (∃ o v, u = .frz o v) ∨ (∃ xs, u = .tup xs) ∨ (∃ C dx x, u = .ins C dx [("beach", x)]) ∨ ((∃ xs, u = .lst xs) ∧ ∀ i, i < n → a ∉ ow i)
theorem Fam.out (h : Fam C H n b S P ow gs past) {i : Nat} (hi : i < n) {a : Addr} {u : HO} (e : H a = some u) (f : JG n ow a u) : a ≠ b i ∧ a ≠ P i := by
 obtain ⟨dx, eb⟩ := (h.bch i hi).at_
 have hp := (h.bch i hi).po
 obtain ⟨ps, ep, _⟩ := (h.bch i hi).pa
 rcases f with ⟨o, v, rfl⟩ | ⟨xs, rfl⟩ | ⟨C', dx', x, rfl⟩ | ⟨⟨xs, rfl⟩, o⟩
 ·exact ⟨fun z => (by rw [z, eb] at e; cases e), fun z => by rw [z, ep] at e; cases e⟩
 ·exact ⟨fun z => (by rw [z, eb] at e; cases e), fun z => by rw [z, ep] at e; cases e⟩
 ·exact ⟨fun z => (by rw [z, eb] at e; cases e), fun z => by rw [z, ep] at e; cases e⟩
 ·exact ⟨fun z => (by rw [z, eb] at e; cases e), fun z => o i hi (z ▸ hp)⟩
theorem Fam.get (h : Fam C H n b S P ow gs past) {i : Nat} (hi : i < n) (k : Kp (b i) (P i) H H') {a : Addr} {u : HO} (e : H a = some u) (f : JG n ow a u) : H' a = some u := by
 obtain ⟨h1, h2⟩ := h.out hi e f
 exact k a u h1 h2 e
theorem Fam.far {i : Nat} {ow' : List Addr} {H : Hp} (ho : ∀ a ∈ ow', a ∈ ow i ∨ H a = none) (hi : i < n) {a : Addr} {u : HO} (e : H a = some u) (f : JG n ow a u) : JG n (A0 ow i ow') a u := by
 rcases f with f | f | f | ⟨f, o⟩
 ·exact .inl f
 ·exact .inr (.inl f)
 ·exact .inr (.inr (.inl f))
 ·refine .inr (.inr (.inr ⟨f, fun j hj z => ?_⟩))
  by_cases q : j = i
  ·subst q
   rw [AW] at z
   rcases ho a z with z | z
   ·exact o _ hi z
   ·rw [e] at z; cases z
  ·rw [AJ q] at z; exact o j hj z
theorem Fam.step (h : Fam C H n b S P ow gs past) {i : Nat} (hi : i < n) (k : Kp (b i) (P i) H H') {S' P' : Addr} {ow' : List Addr} {gs' : List G} {past' : List (List G)} (hb : Bch C H' (b i) S' P' ow' gs' past') (ho : ∀ a ∈ ow', a ∈ ow i ∨ H a = none) :
  Fam C H' n b (A0 S i S') (A0 P i P') (A0 ow i ow') (A0 gs i gs') (A0 past i past') := by
 have al : ∀ j, j < n → ∀ a ∈ ow j, ∃ xs, H a = some (.lst xs) := fun j hj => (h.bch j hj).lv
 refine ⟨fun j hj => ?_, fun j l hj hl jl => ⟨(h.ne j l hj hl jl).1, fun a ha z => ?_⟩⟩
 ·by_cases q : j = i
  ·subst q
   simp only [AW]
   exact hb
  ·simp only [AJ q]
   obtain ⟨d1, d2⟩ := h.ne j i hj hi q
   refine (h.bch j hj).keep fun a u hc e => ?_
   have ip := (h.bch i hi).po
   rcases hc with rfl | hc | ⟨xs, rfl⟩
   ·obtain ⟨dx, eb⟩ := (h.bch j hj).at_
    refine k _ _ d1 (fun z => ?_) e
    obtain ⟨ps, ep, _⟩ := (h.bch i hi).pa
    rw [← z, eb] at ep; cases ep
   ·refine k _ _ (fun z => ?_) (fun z => d2 a hc (z ▸ ip)) e
    obtain ⟨xs, e1⟩ := al j hj a hc
    obtain ⟨dx, eb⟩ := (h.bch i hi).at_
    rw [z, eb] at e1; cases e1
   ·obtain ⟨h1, h2⟩ := h.out hi e (.inr (.inl ⟨xs, rfl⟩))
    exact k _ _ h1 h2 e
 ·by_cases q : j = i
  ·subst q
   rw [AW] at ha
   rw [AJ (fun z => jl z.symm)] at z
   rcases ho a ha with w | w
   ·exact (h.ne j l hj hl jl).2 a w z
   ·obtain ⟨xs, e1⟩ := al l hl a z
    rw [w] at e1; cases e1
  ·rw [AJ q] at ha
   by_cases q2 : l = i
   ·subst q2
    rw [AW] at z
    rcases ho a z with w | w
    ·exact (h.ne j l hj hl jl).2 a ha w
    ·obtain ⟨xs, e1⟩ := al j hj a ha
     rw [w] at e1; cases e1
   ·rw [AJ q2] at z
    exact (h.ne j l hj hl jl).2 a ha z
theorem Fam.upd (h : Fam C H n b S P ow gs past) {a : Addr} {xs : List V} {o : HO} (e : H a = some (.lst xs)) (f : ∀ i, i < n → a ∉ ow i) : Fam C (L2.upd H a o) n b S P ow gs past := by
 refine ⟨fun j hj => (h.bch j hj).keep fun c u hc ec => ?_, h.ne⟩
 refine (AF fun z => ?_).trans ec
 subst z
 rw [e] at ec; cases ec
 rcases hc with rfl | hc | ⟨ys, z⟩
 ·obtain ⟨dx, eb⟩ := (h.bch j hj).at_
  rw [eb] at e; cases e
 ·exact f j hj hc
 ·cases z
end
end TG
namespace L2
open PySem PySem.Spec PyProof.Rows
section
variable {X : Cx} {o e : Expr} {es : List Expr} {to : TE} {t : TA} {name : Str} {apos cpos : Pos} {T id : String} {r : V → List V → Hp → VK → Prop}
theorem Lx {K : PySem.W.Frag} (hK : X.K = K) (pa : PlainAttrs T) (slot : Slot T name id) (hty : typeOf (.builtin id) = pure (.type "method_descriptor")) (hm : MtR X id r) (ho : PE X o to) (ha : PA X (e :: es) t)
  (hbase : attributeBase o name X.env (eval o X.env) = eval o X.env := by rfl)
  (hfew : ((backTo cpos (starEach (e :: es) X.env)).all (fun x => !x.1) && (backToKw cpos (keywordEach [] X.env)).all (fun x => x.1.isSome)
   && decide ((e :: es).length + ([] : List Keyword).length + (if ([] : List Keyword).isEmpty then 0 else 1) < 30)) = true := by rfl)
  (hline : (apos.endLine == cpos.line) = true := by rfl) (hs : starEach (e :: es) X.env = (false, eval e X.env) :: starEach es X.env := by rfl) (hplain : (backTo cpos (starEach es X.env)).any (·.1) = false := by rfl) :
  PE X (.Call (.Attribute o name apos) (e :: es) [] cpos) (tBM K T r to t) := by subst hK; exact EI pa slot hty hm ho ha hbase hfew hline hs hplain
end
end L2
namespace TG
open PySem L2
theorem IV : ∀ (l : List Nat) (a : Nat), (∀ c ∈ l, 48 ≤ c ∧ c ≤ 57) → l.foldl (fun acc c => acc * 10 + (c - 48)) a + 1 ≤ (a + 1) * 10 ^ l.length
 | [], a, _ => by simp
 | c :: r, a, h => by
  have h1 := h c List.mem_cons_self
  have h2 := IV r (a * 10 + (c - 48)) fun x hx => h x (List.mem_cons_of_mem _ hx)
  rw [List.foldl_cons, List.length_cons]
  refine Nat.le_trans h2 ?_
  rw [Nat.pow_succ, Nat.mul_comm (10 ^ r.length) 10, ← Nat.mul_assoc]
  exact Nat.mul_le_mul_right _ (by lia)
theorem num9 {w : List Nat} {n : Int} (h : rdN w = some n) : n.natAbs ≤ 999999999 := by
 unfold rdN at h
 split at h
 ·cases h; decide
 ·split at h
  ·rename_i h1
   cases h
   obtain ⟨h1, h2, h3, h4⟩ := h1
   have h5 := IV _ 0 h3
   have h6 : 10 ^ (bare w).length ≤ 10 ^ 9 := Nat.pow_le_pow_right (by decide) h2
   have h7 : NumText.digitsVal (bare w) + 1 ≤ 10 ^ (bare w).length := by
    rw [Nat.zero_add, Nat.one_mul] at h5; exact h5
   split <;> lia
  ·cases h
section
variable {C : Addr} {H H' : Hp} {n : Nat} {b S P : Nat → Addr} {ow : Nat → List Addr} {gs : Nat → List G} {past : Nat → List (List G)}
theorem Fam.nil {C : Addr} {H : Hp} : Fam C H 0 (fun _ => 0) (fun _ => 0) (fun _ => 0) (fun _ => []) (fun _ => []) (fun _ => []) := ⟨fun i h => absurd h (Nat.not_lt_zero i), fun i _ h => absurd h (Nat.not_lt_zero i)⟩
theorem Fam.push (h : Fam C H n b S P ow gs past) (s : AH H H') {B S1 P1 : Addr} (nB : H B = none) (nS : H S1 = none) (nP : H P1 = none) (hb : Bch C H' B S1 P1 [S1, P1] [] []) :
  Fam C H' (n + 1) (A0 b n B) (A0 S n S1) (A0 P n P1) (A0 ow n [S1, P1]) (A0 gs n []) (A0 past n []) := by
 have off : ∀ j, j < n → ∀ a, (a = S1 ∨ a = P1) → a ∉ ow j := fun j hj a ha z => by
  obtain ⟨xs, e⟩ := (h.bch j hj).lv a z
  rcases ha with rfl | rfl
  ·rw [nS] at e; cases e
  ·rw [nP] at e; cases e
 have ofb : ∀ j, j < n → b j ≠ B := fun j hj z => by
  obtain ⟨dx, e⟩ := (h.bch j hj).at_
  rw [z, nB] at e; cases e
 refine ⟨fun i hi => ?_, fun i j hi hj ij => ?_⟩
 ·by_cases q : i = n
  ·subst q
   simp only [AW]
   exact hb
  ·simp only [AJ q]
   exact (h.bch i (by lia)).same s
 ·by_cases q : i = n
  ·subst q
   rw [AW, AW, AJ (fun z => ij z.symm), AJ (fun z => ij z.symm)]
   refine ⟨fun z => ofb j (by lia) z.symm, fun a ha => off j (by lia) a ?_⟩
   simpa using ha
  ·rw [AJ q, AJ q]
   by_cases q2 : j = n
   ·subst q2
    rw [AW, AW]
    refine ⟨ofb i (by lia), fun a ha z => off i (by lia) a (by simpa using z) ha⟩
   ·rw [AJ q2, AJ q2]
    exact h.ne i j (by lia) (by lia) ij
structure W36 (C : Addr) (H : Hp) (b S P : Nat → Addr) (ow : Nat → List Addr) (gs : Nat → List G) (past : Nat → List (List G)) (L0 : List (Addr × HO)) (Kl : Nat → Addr) (as : Nat → List Addr) (ks : Nat → List G) : Prop where
 fam : Fam C H 4 b S P ow gs past
 it : ∀ p ∈ L0, H p.1 = some p.2 ∧ JG 4 ow p.1 p.2 ∧ ∀ j, j < 2 → p.1 ≠ Kl j
 kl : ∀ j, j < 2 → H (Kl j) = some (.lst ((as j).map V.ref)) ∧ ∀ i, i < 4 → Kl j ∉ ow i
 ga : ∀ j, j < 2 → Aa H (as j) (ks j)
 kn : ∀ i j, i < 2 → j < 2 → i ≠ j → Kl i ≠ Kl j
variable {L0 : List (Addr × HO)} {Kl : Nat → Addr} {as : Nat → List Addr} {ks : Nat → List G}
theorem W36.same (w : W36 C H b S P ow gs past L0 Kl as ks) (s : AH H H') : W36 C H' b S P ow gs past L0 Kl as ks :=
 ⟨w.fam.same s, fun p hp => ⟨s _ _ (w.it p hp).1, (w.it p hp).2⟩, fun j hj => ⟨s.get (w.kl j hj).1, (w.kl j hj).2⟩, fun j hj => (w.ga j hj).same s, w.kn⟩
theorem W36.step (w : W36 C H b S P ow gs past L0 Kl as ks) {i : Nat} (hi : i < 4) (k : Kp (b i) (P i) H H') {S' P' : Addr} {ow' : List Addr} {gs' : List G} {past' : List (List G)} (hb : Bch C H' (b i) S' P' ow' gs' past') (ho : ∀ a ∈ ow', a ∈ ow i ∨ H a = none) :
  W36 C H' b (A0 S i S') (A0 P i P') (A0 ow i ow') (A0 gs i gs') (A0 past i past') L0 Kl as ks where
 fam := w.fam.step hi k hb ho
 it := fun p hp => by
  obtain ⟨h1, h2, h3⟩ := w.it p hp
  exact ⟨w.fam.get hi k h1 h2, Fam.far ho hi h1 h2, h3⟩
 kl := fun j hj => by
  obtain ⟨h1, h2⟩ := w.kl j hj
  have f : JG 4 ow (Kl j) (.lst ((as j).map V.ref)) := .inr (.inr (.inr ⟨⟨_, rfl⟩, h2⟩))
  refine ⟨w.fam.get hi k h1 f, ?_⟩
  rcases Fam.far ho hi h1 f with ⟨_, _, z⟩ | ⟨_, z⟩ | ⟨_, _, _, z⟩ | ⟨_, z⟩
  ·cases z
  ·cases z
  ·cases z
  ·exact z
 ga := fun j hj => (w.ga j hj).keep fun a xs e => w.fam.get hi k e (.inr (.inl ⟨xs, rfl⟩))
 kn := w.kn
theorem W36.put (w : W36 C H b S P ow gs past L0 Kl as ks) {j : Nat} (hj : j < 2) {xs : List Addr} {k' : List G} (g : Aa H xs k') :
  W36 C (L2.upd H (Kl j) (.lst (xs.map V.ref))) b S P ow gs past L0 Kl (A0 as j xs) (A0 ks j k') where
 fam := w.fam.upd (w.kl j hj).1 (w.kl j hj).2
 it := fun p hp => by
  obtain ⟨h1, h2, h3⟩ := w.it p hp
  exact ⟨(AF (h3 j hj)).trans h1, h2, h3⟩
 kl := fun i hi => by
  by_cases q : i = j
  ·subst q
   rw [AW]
   exact ⟨AI, (w.kl i hi).2⟩
  ·rw [AJ q]
   exact ⟨(AF (w.kn i j hi hj q)).trans (w.kl i hi).1, (w.kl i hi).2⟩
 ga := fun i hi => by
  have kt : ∀ a ys, H a = some (.tup ys) → L2.upd H (Kl j) (.lst (xs.map V.ref)) a = some (.tup ys) := fun a ys e => (AF (Fn e (w.kl j hj).1 fun z => by cases z)).trans e
  by_cases q : i = j
  ·subst q
   rw [AW, AW]
   exact g.keep kt
  ·rw [AJ q, AJ q]
   exact (w.ga i hi).keep kt
 kn := w.kn
end
noncomputable def ini (l : List G) : List (List G) := (List.range l.length).map fun m => l.take m
theorem IY (l : List G) : (ini l).length = l.length := by unfold ini; rw [List.length_map, List.length_range]
theorem DQ (l : List G) (g : G) : ini (l ++ [g]) = ini l ++ [l] := by
 unfold ini
 rw [List.length_append, List.length_singleton, List.range_succ, List.map_append, List.map_singleton, List.take_left' rfl]
 congr 1
 refine List.map_congr_left fun m hm => ?_
 rw [List.mem_range] at hm
 exact List.take_append_of_le_length (by lia)
theorem Ik {l : List G} {g : G} (h : ∀ x ∈ l, x.p < g.p) : Co l g.p [g] = l ++ [g] := by
 unfold Co
 rw [List.filter_eq_self.mpr fun x hx => decide_eq_true (h x hx), show (l.filter fun x => decide (g.p < x.p)) = [] from List.filter_eq_nil_iff.mpr fun x hx => by have := h x hx; simp; lia]
 rfl
noncomputable def Eu (k : Nat) (gs : Nat → List G) (past : Nat → List (List G)) (ks : Nat → List G) : Prop := ∀ j, j < 2 → gs j = ks j ∧ gs (2 + j) = ks j ∧ past j = ini (ks j) ∧ past (2 + j) = ini (ks j) ∧ (ks j).length ≤ k ∧ ∀ g ∈ ks j, g.p < (k : Int) - 12
theorem put36 {l : List G} {k : Nat} {f h : Int} (hk : k < 24) (hl : l.length ≤ k) (hp : ∀ g ∈ l, g.p < (k : Int) - 12) (f0 : -9 ≤ f) (f1 : f ≤ 9) (h0 : f ≤ h) (h1 : h ≤ f + 5) : Es l (ini l) ((k : Int) - 12) f h = none := by
 unfold Es
 rw [if_neg (fun z => by obtain ⟨g, hg, e⟩ := List.mem_map.mp z; have := hp g hg; lia), (E4 (p := (k : Int) - 12) (f := f) (h := h)).mpr ⟨by show -1000 ≤ (k : Int) - 12; lia, by show (k : Int) - 12 ≤ 1000; lia, by show -1000 ≤ f; lia, h0, by show h ≤ 1000; lia⟩, if_neg (by lia), if_neg (by rw [IY]; lia)]
 rfl
theorem Ll {l : List G} {g : G} : Ek (ini (l ++ [g])) 1 = none ∧ (ini (l ++ [g])).getD ((ini (l ++ [g])).length - (1 : Int).toNat) [] = l ∧ (ini (l ++ [g])).take ((ini (l ++ [g])).length - (1 : Int).toNat) = ini l := by
 have e : (ini (l ++ [g])).length - (1 : Int).toNat = (ini l).length := by rw [DQ, List.length_append]; simp
 refine ⟨?_, ?_, ?_⟩
 ·unfold Ek
  rw [if_neg (by lia), if_neg (by rw [IY, List.length_append, List.length_singleton]; lia)]
 ·rw [e, DQ, List.getD_eq_getElem?_getD, List.getElem?_append_right (Nat.le_refl _), Nat.sub_self]; rfl
 ·rw [e, DQ, List.take_left' rfl]
theorem Eu.set {k : Nat} {gs : Nat → List G} {past : Nat → List (List G)} {ks : Nat → List G} (m : Eu k gs past ks) {sd : Nat} (h : sd < 2) {l : List G} (hl : l.length ≤ k + 1) (hp : ∀ g ∈ l, g.p < ((k + 1 : Nat) : Int) - 12) :
  Eu (k + 1) (A0 (A0 gs sd l) (2 + sd) l) (A0 (A0 past sd (ini l)) (2 + sd) (ini l)) (A0 ks sd l) := fun j hj => by
 by_cases q : j = sd
 ·subst q
  rw [AJ (show j ≠ 2 + j by lia), AJ (show j ≠ 2 + j by lia)]
  refine ⟨by rw [AW, AW], by rw [AW, AW], by rw [AW, AW], by rw [AW, AW], by rw [AW]; exact hl, by rw [AW]; exact hp⟩
 ·rw [AJ (show j ≠ 2 + sd by lia), AJ (show j ≠ 2 + sd by lia), AJ (show 2 + j ≠ 2 + sd by lia), AJ (show 2 + j ≠ 2 + sd by lia), AJ q, AJ q, AJ q, AJ (show 2 + j ≠ sd by lia), AJ (show 2 + j ≠ sd by lia)]
  obtain ⟨a, b, c, d, e, f⟩ := m j hj
  exact ⟨a, b, c, d, by lia, fun g hg => by have := f g hg; lia⟩
theorem Paired.dropP {α β : Type} {F : α → β → Prop} {xs : List α} {ys : List β} (h : Paired F xs ys) : Paired F xs.dropLast ys.dropLast := by
 rw [List.dropLast_eq_take, List.dropLast_eq_take, Paired.length h]
 exact Paired.takeP h _
end TG
namespace L2
open PySem PySem.Spec PyProof.Rows
end L2
namespace TG
open PySem L2
noncomputable abbrev GT : Type := Str → Str → Str → Str → Str → Str → Str → Str → Str → Str → Str → Str → Str → Str → Str → Str → Str → Str → Str → Str → Str → Str → Str → Str → Str → Str → Str → Str → Str → Str → Str → Str → Str → Str → Str → Str → Str → Str → Str → Str → Str → Str → Str → Str → Str → Str → Str → Str → Str → Str → Str → Str → Str → Str → Str → Str → Str → Str → Str → Str → Str → Str → Str → Str → Str → Str → Str → Str → Str → Str → Str → Str → Str → Str → Str → Str → Str → Str → Str → Str → Str → Str → Str → Str → Str → Str → Str → Str → Str → Str → Str → Str → Str → Str → Str → Str → Str → Str → Str → Str → Str → Str → Str → Str → Str → Str → Str → Str → Str → Str → Str → Str → Str → Str → Str → Str → Str → Str → Str → Str → Str → Str → Str → Str → Str → Str → Str → Str → Str → Str → Str → Str → Str → Str → Str → Str → Str → Str → Str → Str → Str → Str → Str → Str → Str → Str → Str → Str → Str → Str → Str → Str → Str → Str → Str → Str → Str → Str → Str → Str → Str → Str → Str → Str → Str → Str → Str → Str → Str → Str → Str → Str → Str → Str → Str → Str → Str → Str → Str → Str → Str → Str → Str → Str → Str → Str → Str → Str → Str → Str → Str → Str → Str → Str → Str → Str → Str → Str → Str → Str → Str → Str → Str → Str → Str → Str → Str → Str → Str → Str → Str → Str → Str → Str → Str → Str → Str → Str → Str → Str → Str → Str → Str → Str → Str → Str → Str → Str → Str → Str → Str → Str → Str → Str → Str → Str → Str → Str → Str → Str → Str → Str → Str → Str → Str → Str → Str → Str → Str → Str → Str → Str → Str → Str → Str → Str → Str → Str → Str → Str → Str → Str → Str → Str → Str → Str → Str → Str → Program
noncomputable def EqA (p : Program) (G : GT) : Prop := p = G (.ofString "Desk") (.ofString "__init__") (.ofString "self") (.ofString "beach") (.ofString "Beach") (.ofString "answer") (.ofString "row") (.ofString "row_answer") (.ofString "__name__") (.ofString "law_throwgate_k36_apart") (.ofString "_law_whole") (.ofString "_law_found") (.ofString "isinstance") (.ofString "int") (.ofString "bool") (.ofString "_law_numbers") (.ofString "_law_due") (.ofString "tuple") (.ofString "len") (.ofString "_law_k") (.ofString "range") (.ofString "_law_rows") (.ofString "list") (.ofString "_law_shown") (.ofString "_law_row") (.ofString "") (.ofString "join") (.ofString "gates") (.ofString " ") (.ofString "str") (.ofString "_law_gate") (.ofString ":") (.ofString ".0") (.ofString "fast") (.ofString "law") (.ofString "_law_script") (.ofString "_law_beaches") (.ofString "_law_desks") (.ofString "_law_kept") (.ofString "max") (.ofString "min") (.ofString "_law_cell") (.ofString "_law_side") (.ofString "_law_foot") (.ofString "pop") (.ofString "back") (.ofString "append") (.ofString "put") (.ofString "put ") (.ofString "_law_j") (.ofString "_law_told") (.ofString "runs_row") (.ofString "words") (.ofString "check_many") (.ofString "runs") (.ofString "run_word") (.ofString "run") (.ofString "most_row") (.ofString "told") (.ofString "most") (.ofString "number_words") (.ofString "throw") (.ofString "throw_words") (.ofString "passed_row") (.ofString "height") (.ofString "read_fraction") (.ofString "rise") (.ofString "passed") (.ofString "ROWS") (.ofString "take") (.ofString "lift") (.ofString "sink") (.ofString "deeds") (.ofString "through") (.ofString "steepest") (.ofString "flattest") (.ofString "put_row") (.ofString "take_row") (.ofString "lift_row") (.ofString "sink_row") (.ofString "back_row") (.ofString "deeds_row") (.ofString "gates_row") (.ofString "through_row") (.ofString "steepest_row") (.ofString "flattest_row") (.ofString "row_told") (.ofString "split") (.ofString "asked") (.ofString "get") (.ofString "BadRow") (.ofString "the desk does not know this word") (.ofString "refused: bad row") (.ofString "NoGate") (.ofString "refused: no gate") (.ofString "Taken") (.ofString "refused: taken") (.ofString "UpsideDown") (.ofString "refused: upside down") (.ofString "OutOfBounds") (.ofString "refused: out of bounds") (.ofString "BeachFull") (.ofString "refused: beach full") (.ofString "DeedsFull") (.ofString "refused: deeds full") (.ofString "NothingBack") (.ofString "refused: nothing back") (.ofString "BadList") (.ofString "refused: bad list") (.ofString "TooFew") (.ofString "refused: too few") (.ofString "WrongSize") (.ofString "refused: wrong size") (.ofString "BadThrow") (.ofString "refused: bad throw") (.ofString "deeds_text") (.ofString "numbers") (.ofString "read_so_many") (.ofString "gate") (.ofString "through_text") (.ofString "read_numbers") (.ofString "foot") (.ofString "head") (.ofString "ends") (.ofString "bar") (.ofString "end") (.ofString "place") (.ofString "zip") (.ofString "gate_text") (.ofString "read_number") (.ofString "word") (.ofString "many") (.ofString "number") (.ofString "write_fraction") (.ofString "deeds ") (.ofString "are_figures") (.ofString "text") (.ofString "MOST_FIGURES") (.ofString "all") (.ofString "sign") (.ofString "FIGURES") (.ofString "0") (.ofString "figures") (.ofString "startswith") (.ofString "-") (.ofString "this is not how a number is written") (.ofString "parts") (.ofString "/") (.ofString "a fraction has one stroke at most") (.ofString "top") (.ofString "bottom") (.ofString "fraction") (.ofString "lowest") (.ofString "throwgate.desk") (.ofString "too few or too many words") (.ofString "check_places") (.ofString "places") (.ofString "the list has no place") (.ofString "MOST_GATES") (.ofString "the list has too many places") (.ofString "set") (.ofString "the list has a place twice") (.ofString "check_throw") (.ofString "a bottom is below 1") (.ofString "GREAT_NUMBER") (.ofString "a number of the throw is too great") (.ofString "standing") (.ofString "past") (.ofString "has_gate") (.ofString "gate_at") (.ofString "no gate stands at this place") (.ofString "do_deed") (.ofString "instead") (.ofString "MOST_DEEDS") (.ofString "no more deeds may stand") (.ofString "others") (.ofString "sorted") (.ofString "a gate stands at this place already") (.ofString "check_gate") (.ofString "no more gates may stand") (.ofString "foot_by") (.ofString "head_by") (.ofString "before") (.ofString "one deed is the least that is taken back") (.ofString "fewer deeds stand") (.ofString "left") (.ofString "gates_at") (.ofString "two_gates_at") (.ofString "one gate alone has no steepest and no flattest throw") (.ofString "throw_through") (.ofString "steepest_throw") (.ofString "flattest_throw") (.ofString "fewest_runs") (.ofString "SMALL_BEACH") (.ofString "the most are told of a small beach that is not empty") (.ofString "most_gates") (.ofString "places_passed") (.ofString "throwgate.texts") (.ofString "0123456789") (.ofString "longer") (.ofString "longer_throw") (.ofString "common_throw") (.ofString "run_told") (.ofString "throwgate.small") (.ofString "tried_throws") (.ofString "ordered") (.ofString "throws") (.ofString "index") (.ofString "earlier") (.ofString "enumerate") (.ofString "later") (.ofString "line_by") (.ofString "tried") (.ofString "key") (.ofString "throwgate.beach") (.ofString "the foot would be above the head") (.ofString "LEAST") (.ofString "GREATEST") (.ofString "a place, foot or head would be out of bounds") (.ofString "found") (.ofString "steepest_found") (.ofString "bar_told") (.ofString "turned_over") (.ofString "turned_throw") (.ofString "throwgate.shore") (.ofString "tightest_pair") (.ofString "pair") (.ofString "compare") (.ofString "foot_to_head") (.ofString "foot_place") (.ofString "head_place") (.ofString "passes_all") (.ofString "level_throw") (.ofString "first_three") (.ofString "other") (.ofString "second") (.ofString "steps") (.ofString "gain") (.ofString "start") (.ofString "passes") (.ofString "height_at") (.ofString "throwgate.lists") (.ofString "throwgate.fracs") (.ofString "greatest_divisor") (.ofString "one") (.ofString "two") (.ofString "divisor") (.ofString "rest") (.ofString "next_rest") (.ofString "abs") (.ofString "right") (.ofString "throwgate.lines") (.ofString "height_top") (.ofString "height_bottom") (.ofString "rise_top") (.ofString "rise_bottom") (.ofString "BeachError") (.ofString "throwgate.bars") (.ofString "side_of_line") (.ofString "barring") (.ofString "three") (.ofString "count") (.ofString "first") (.ofString "middle") (.ofString "last") (.ofString "throwgate.errors") (.ofString "ValueError") (.ofString "/claim/cut.py")
noncomputable def Gp : GT := by
 refine' (?m : _ → GT) (?h : EqA PySem.Challenge.pw_throwgate_k36_apart ?G)
 case h =>
  delta EqA PySem.Challenge.pw_throwgate_k36_apart
  iterate 268 (generalize Str.ofString _ = x)
  exact rfl
 case m => exact fun _ => ?G
theorem Gq : EqA PySem.Challenge.pw_throwgate_k36_apart Gp := by delta EqA; kernel_rfl
theorem at_0 : Str.ofString "Desk" = Str.mk (.mk [68, 101, 115, 107]) := by kernel_rfl
theorem at_1 : Str.ofString "__init__" = Str.mk (.mk [95, 95, 105, 110, 105, 116, 95, 95]) := by kernel_rfl
theorem at_2 : Str.ofString "self" = Str.mk (.mk [115, 101, 108, 102]) := by kernel_rfl
theorem at_3 : Str.ofString "beach" = Str.mk (.mk [98, 101, 97, 99, 104]) := by kernel_rfl
theorem at_4 : Str.ofString "Beach" = Str.mk (.mk [66, 101, 97, 99, 104]) := by kernel_rfl
theorem at_5 : Str.ofString "answer" = Str.mk (.mk [97, 110, 115, 119, 101, 114]) := by kernel_rfl
theorem at_6 : Str.ofString "row" = Str.mk (.mk [114, 111, 119]) := by kernel_rfl
theorem at_7 : Str.ofString "row_answer" = Str.mk (.mk [114, 111, 119, 95, 97, 110, 115, 119, 101, 114]) := by kernel_rfl
theorem at_8 : Str.ofString "__name__" = Str.mk (.mk [95, 95, 110, 97, 109, 101, 95, 95]) := by kernel_rfl
theorem at_9 : Str.ofString "law_throwgate_k36_apart" = Str.mk (.mk [108, 97, 119, 95, 116, 104, 114, 111, 119, 103, 97, 116, 101, 95, 107, 51, 54, 95, 97, 112, 97, 114, 116]) := by kernel_rfl
theorem at_10 : Str.ofString "_law_whole" = Str.mk (.mk [95, 108, 97, 119, 95, 119, 104, 111, 108, 101]) := by kernel_rfl
theorem at_11 : Str.ofString "_law_found" = Str.mk (.mk [95, 108, 97, 119, 95, 102, 111, 117, 110, 100]) := by kernel_rfl
theorem at_12 : Str.ofString "isinstance" = Str.mk (.mk [105, 115, 105, 110, 115, 116, 97, 110, 99, 101]) := by kernel_rfl
theorem at_13 : Str.ofString "int" = Str.mk (.mk [105, 110, 116]) := by kernel_rfl
theorem at_14 : Str.ofString "bool" = Str.mk (.mk [98, 111, 111, 108]) := by kernel_rfl
theorem at_15 : Str.ofString "_law_numbers" = Str.mk (.mk [95, 108, 97, 119, 95, 110, 117, 109, 98, 101, 114, 115]) := by kernel_rfl
theorem at_16 : Str.ofString "_law_due" = Str.mk (.mk [95, 108, 97, 119, 95, 100, 117, 101]) := by kernel_rfl
theorem at_17 : Str.ofString "tuple" = Str.mk (.mk [116, 117, 112, 108, 101]) := by kernel_rfl
theorem at_18 : Str.ofString "len" = Str.mk (.mk [108, 101, 110]) := by kernel_rfl
theorem at_19 : Str.ofString "_law_k" = Str.mk (.mk [95, 108, 97, 119, 95, 107]) := by kernel_rfl
theorem at_20 : Str.ofString "range" = Str.mk (.mk [114, 97, 110, 103, 101]) := by kernel_rfl
theorem at_21 : Str.ofString "_law_rows" = Str.mk (.mk [95, 108, 97, 119, 95, 114, 111, 119, 115]) := by kernel_rfl
theorem at_22 : Str.ofString "list" = Str.mk (.mk [108, 105, 115, 116]) := by kernel_rfl
theorem at_23 : Str.ofString "_law_shown" = Str.mk (.mk [95, 108, 97, 119, 95, 115, 104, 111, 119, 110]) := by kernel_rfl
theorem at_24 : Str.ofString "_law_row" = Str.mk (.mk [95, 108, 97, 119, 95, 114, 111, 119]) := by kernel_rfl
theorem at_25 : Str.ofString "" = Str.mk (.mk []) := by kernel_rfl
theorem at_26 : Str.ofString "join" = Str.mk (.mk [106, 111, 105, 110]) := by kernel_rfl
theorem at_27 : Str.ofString "gates" = Str.mk (.mk [103, 97, 116, 101, 115]) := by kernel_rfl
theorem at_28 : Str.ofString " " = Str.mk (.mk [32]) := by kernel_rfl
theorem at_29 : Str.ofString "str" = Str.mk (.mk [115, 116, 114]) := by kernel_rfl
theorem at_30 : Str.ofString "_law_gate" = Str.mk (.mk [95, 108, 97, 119, 95, 103, 97, 116, 101]) := by kernel_rfl
theorem at_31 : Str.ofString ":" = Str.mk (.mk [58]) := by kernel_rfl
theorem at_32 : Str.ofString ".0" = Str.mk (.mk [46, 48]) := by kernel_rfl
theorem at_33 : Str.ofString "fast" = Str.mk (.mk [102, 97, 115, 116]) := by kernel_rfl
theorem at_34 : Str.ofString "law" = Str.mk (.mk [108, 97, 119]) := by kernel_rfl
theorem at_35 : Str.ofString "_law_script" = Str.mk (.mk [95, 108, 97, 119, 95, 115, 99, 114, 105, 112, 116]) := by kernel_rfl
theorem at_36 : Str.ofString "_law_beaches" = Str.mk (.mk [95, 108, 97, 119, 95, 98, 101, 97, 99, 104, 101, 115]) := by kernel_rfl
theorem at_37 : Str.ofString "_law_desks" = Str.mk (.mk [95, 108, 97, 119, 95, 100, 101, 115, 107, 115]) := by kernel_rfl
theorem at_38 : Str.ofString "_law_kept" = Str.mk (.mk [95, 108, 97, 119, 95, 107, 101, 112, 116]) := by kernel_rfl
theorem at_39 : Str.ofString "max" = Str.mk (.mk [109, 97, 120]) := by kernel_rfl
theorem at_40 : Str.ofString "min" = Str.mk (.mk [109, 105, 110]) := by kernel_rfl
theorem at_41 : Str.ofString "_law_cell" = Str.mk (.mk [95, 108, 97, 119, 95, 99, 101, 108, 108]) := by kernel_rfl
theorem at_42 : Str.ofString "_law_side" = Str.mk (.mk [95, 108, 97, 119, 95, 115, 105, 100, 101]) := by kernel_rfl
theorem at_43 : Str.ofString "_law_foot" = Str.mk (.mk [95, 108, 97, 119, 95, 102, 111, 111, 116]) := by kernel_rfl
theorem at_44 : Str.ofString "pop" = Str.mk (.mk [112, 111, 112]) := by kernel_rfl
theorem at_45 : Str.ofString "back" = Str.mk (.mk [98, 97, 99, 107]) := by kernel_rfl
theorem at_46 : Str.ofString "append" = Str.mk (.mk [97, 112, 112, 101, 110, 100]) := by kernel_rfl
theorem at_47 : Str.ofString "put" = Str.mk (.mk [112, 117, 116]) := by kernel_rfl
theorem at_48 : Str.ofString "put " = Str.mk (.mk [112, 117, 116, 32]) := by kernel_rfl
theorem at_49 : Str.ofString "_law_j" = Str.mk (.mk [95, 108, 97, 119, 95, 106]) := by kernel_rfl
theorem at_50 : Str.ofString "_law_told" = Str.mk (.mk [95, 108, 97, 119, 95, 116, 111, 108, 100]) := by kernel_rfl
theorem at_51 : Str.ofString "runs_row" = Str.mk (.mk [114, 117, 110, 115, 95, 114, 111, 119]) := by kernel_rfl
theorem at_52 : Str.ofString "words" = Str.mk (.mk [119, 111, 114, 100, 115]) := by kernel_rfl
theorem at_53 : Str.ofString "check_many" = Str.mk (.mk [99, 104, 101, 99, 107, 95, 109, 97, 110, 121]) := by kernel_rfl
theorem at_54 : Str.ofString "runs" = Str.mk (.mk [114, 117, 110, 115]) := by kernel_rfl
theorem at_55 : Str.ofString "run_word" = Str.mk (.mk [114, 117, 110, 95, 119, 111, 114, 100]) := by kernel_rfl
theorem at_56 : Str.ofString "run" = Str.mk (.mk [114, 117, 110]) := by kernel_rfl
theorem at_57 : Str.ofString "most_row" = Str.mk (.mk [109, 111, 115, 116, 95, 114, 111, 119]) := by kernel_rfl
theorem at_58 : Str.ofString "told" = Str.mk (.mk [116, 111, 108, 100]) := by kernel_rfl
theorem at_59 : Str.ofString "most" = Str.mk (.mk [109, 111, 115, 116]) := by kernel_rfl
theorem at_60 : Str.ofString "number_words" = Str.mk (.mk [110, 117, 109, 98, 101, 114, 95, 119, 111, 114, 100, 115]) := by kernel_rfl
theorem at_61 : Str.ofString "throw" = Str.mk (.mk [116, 104, 114, 111, 119]) := by kernel_rfl
theorem at_62 : Str.ofString "throw_words" = Str.mk (.mk [116, 104, 114, 111, 119, 95, 119, 111, 114, 100, 115]) := by kernel_rfl
theorem at_63 : Str.ofString "passed_row" = Str.mk (.mk [112, 97, 115, 115, 101, 100, 95, 114, 111, 119]) := by kernel_rfl
theorem at_64 : Str.ofString "height" = Str.mk (.mk [104, 101, 105, 103, 104, 116]) := by kernel_rfl
theorem at_65 : Str.ofString "read_fraction" = Str.mk (.mk [114, 101, 97, 100, 95, 102, 114, 97, 99, 116, 105, 111, 110]) := by kernel_rfl
theorem at_66 : Str.ofString "rise" = Str.mk (.mk [114, 105, 115, 101]) := by kernel_rfl
theorem at_67 : Str.ofString "passed" = Str.mk (.mk [112, 97, 115, 115, 101, 100]) := by kernel_rfl
theorem at_68 : Str.ofString "ROWS" = Str.mk (.mk [82, 79, 87, 83]) := by kernel_rfl
theorem at_69 : Str.ofString "take" = Str.mk (.mk [116, 97, 107, 101]) := by kernel_rfl
theorem at_70 : Str.ofString "lift" = Str.mk (.mk [108, 105, 102, 116]) := by kernel_rfl
theorem at_71 : Str.ofString "sink" = Str.mk (.mk [115, 105, 110, 107]) := by kernel_rfl
theorem at_72 : Str.ofString "deeds" = Str.mk (.mk [100, 101, 101, 100, 115]) := by kernel_rfl
theorem at_73 : Str.ofString "through" = Str.mk (.mk [116, 104, 114, 111, 117, 103, 104]) := by kernel_rfl
theorem at_74 : Str.ofString "steepest" = Str.mk (.mk [115, 116, 101, 101, 112, 101, 115, 116]) := by kernel_rfl
theorem at_75 : Str.ofString "flattest" = Str.mk (.mk [102, 108, 97, 116, 116, 101, 115, 116]) := by kernel_rfl
theorem at_76 : Str.ofString "put_row" = Str.mk (.mk [112, 117, 116, 95, 114, 111, 119]) := by kernel_rfl
theorem at_77 : Str.ofString "take_row" = Str.mk (.mk [116, 97, 107, 101, 95, 114, 111, 119]) := by kernel_rfl
theorem at_78 : Str.ofString "lift_row" = Str.mk (.mk [108, 105, 102, 116, 95, 114, 111, 119]) := by kernel_rfl
theorem at_79 : Str.ofString "sink_row" = Str.mk (.mk [115, 105, 110, 107, 95, 114, 111, 119]) := by kernel_rfl
theorem at_80 : Str.ofString "back_row" = Str.mk (.mk [98, 97, 99, 107, 95, 114, 111, 119]) := by kernel_rfl
theorem at_81 : Str.ofString "deeds_row" = Str.mk (.mk [100, 101, 101, 100, 115, 95, 114, 111, 119]) := by kernel_rfl
theorem at_82 : Str.ofString "gates_row" = Str.mk (.mk [103, 97, 116, 101, 115, 95, 114, 111, 119]) := by kernel_rfl
theorem at_83 : Str.ofString "through_row" = Str.mk (.mk [116, 104, 114, 111, 117, 103, 104, 95, 114, 111, 119]) := by kernel_rfl
theorem at_84 : Str.ofString "steepest_row" = Str.mk (.mk [115, 116, 101, 101, 112, 101, 115, 116, 95, 114, 111, 119]) := by kernel_rfl
theorem at_85 : Str.ofString "flattest_row" = Str.mk (.mk [102, 108, 97, 116, 116, 101, 115, 116, 95, 114, 111, 119]) := by kernel_rfl
theorem at_86 : Str.ofString "row_told" = Str.mk (.mk [114, 111, 119, 95, 116, 111, 108, 100]) := by kernel_rfl
theorem at_87 : Str.ofString "split" = Str.mk (.mk [115, 112, 108, 105, 116]) := by kernel_rfl
theorem at_88 : Str.ofString "asked" = Str.mk (.mk [97, 115, 107, 101, 100]) := by kernel_rfl
theorem at_89 : Str.ofString "get" = Str.mk (.mk [103, 101, 116]) := by kernel_rfl
theorem at_90 : Str.ofString "BadRow" = Str.mk (.mk [66, 97, 100, 82, 111, 119]) := by kernel_rfl
theorem at_91 : Str.ofString "the desk does not know this word" = Str.mk (.mk [116, 104, 101, 32, 100, 101, 115, 107, 32, 100, 111, 101, 115, 32, 110, 111, 116, 32, 107, 110, 111, 119, 32, 116, 104, 105, 115, 32, 119, 111, 114, 100]) := by kernel_rfl
theorem at_92 : Str.ofString "refused: bad row" = Str.mk (.mk [114, 101, 102, 117, 115, 101, 100, 58, 32, 98, 97, 100, 32, 114, 111, 119]) := by kernel_rfl
theorem at_93 : Str.ofString "NoGate" = Str.mk (.mk [78, 111, 71, 97, 116, 101]) := by kernel_rfl
theorem at_94 : Str.ofString "refused: no gate" = Str.mk (.mk [114, 101, 102, 117, 115, 101, 100, 58, 32, 110, 111, 32, 103, 97, 116, 101]) := by kernel_rfl
theorem at_95 : Str.ofString "Taken" = Str.mk (.mk [84, 97, 107, 101, 110]) := by kernel_rfl
theorem at_96 : Str.ofString "refused: taken" = Str.mk (.mk [114, 101, 102, 117, 115, 101, 100, 58, 32, 116, 97, 107, 101, 110]) := by kernel_rfl
theorem at_97 : Str.ofString "UpsideDown" = Str.mk (.mk [85, 112, 115, 105, 100, 101, 68, 111, 119, 110]) := by kernel_rfl
theorem at_98 : Str.ofString "refused: upside down" = Str.mk (.mk [114, 101, 102, 117, 115, 101, 100, 58, 32, 117, 112, 115, 105, 100, 101, 32, 100, 111, 119, 110]) := by kernel_rfl
theorem at_99 : Str.ofString "OutOfBounds" = Str.mk (.mk [79, 117, 116, 79, 102, 66, 111, 117, 110, 100, 115]) := by kernel_rfl
theorem Nj : Str.ofString "refused: out of bounds" = Str.mk (.mk [114, 101, 102, 117, 115, 101, 100, 58, 32, 111, 117, 116, 32, 111, 102, 32, 98, 111, 117, 110, 100, 115]) := by kernel_rfl
theorem Mq : Str.ofString "BeachFull" = Str.mk (.mk [66, 101, 97, 99, 104, 70, 117, 108, 108]) := by kernel_rfl
theorem O2 : Str.ofString "refused: beach full" = Str.mk (.mk [114, 101, 102, 117, 115, 101, 100, 58, 32, 98, 101, 97, 99, 104, 32, 102, 117, 108, 108]) := by kernel_rfl
theorem OC : Str.ofString "DeedsFull" = Str.mk (.mk [68, 101, 101, 100, 115, 70, 117, 108, 108]) := by kernel_rfl
theorem NK : Str.ofString "refused: deeds full" = Str.mk (.mk [114, 101, 102, 117, 115, 101, 100, 58, 32, 100, 101, 101, 100, 115, 32, 102, 117, 108, 108]) := by kernel_rfl
theorem O0 : Str.ofString "NothingBack" = Str.mk (.mk [78, 111, 116, 104, 105, 110, 103, 66, 97, 99, 107]) := by kernel_rfl
theorem M2 : Str.ofString "refused: nothing back" = Str.mk (.mk [114, 101, 102, 117, 115, 101, 100, 58, 32, 110, 111, 116, 104, 105, 110, 103, 32, 98, 97, 99, 107]) := by kernel_rfl
theorem Lq : Str.ofString "BadList" = Str.mk (.mk [66, 97, 100, 76, 105, 115, 116]) := by kernel_rfl
theorem O5 : Str.ofString "refused: bad list" = Str.mk (.mk [114, 101, 102, 117, 115, 101, 100, 58, 32, 98, 97, 100, 32, 108, 105, 115, 116]) := by kernel_rfl
theorem O8 : Str.ofString "TooFew" = Str.mk (.mk [84, 111, 111, 70, 101, 119]) := by kernel_rfl
theorem L5 : Str.ofString "refused: too few" = Str.mk (.mk [114, 101, 102, 117, 115, 101, 100, 58, 32, 116, 111, 111, 32, 102, 101, 119]) := by kernel_rfl
theorem N4 : Str.ofString "WrongSize" = Str.mk (.mk [87, 114, 111, 110, 103, 83, 105, 122, 101]) := by kernel_rfl
theorem Mo : Str.ofString "refused: wrong size" = Str.mk (.mk [114, 101, 102, 117, 115, 101, 100, 58, 32, 119, 114, 111, 110, 103, 32, 115, 105, 122, 101]) := by kernel_rfl
theorem OK : Str.ofString "BadThrow" = Str.mk (.mk [66, 97, 100, 84, 104, 114, 111, 119]) := by kernel_rfl
theorem OJ : Str.ofString "refused: bad throw" = Str.mk (.mk [114, 101, 102, 117, 115, 101, 100, 58, 32, 98, 97, 100, 32, 116, 104, 114, 111, 119]) := by kernel_rfl
theorem Lb : Str.ofString "deeds_text" = Str.mk (.mk [100, 101, 101, 100, 115, 95, 116, 101, 120, 116]) := by kernel_rfl
theorem M8 : Str.ofString "numbers" = Str.mk (.mk [110, 117, 109, 98, 101, 114, 115]) := by kernel_rfl
theorem MW : Str.ofString "read_so_many" = Str.mk (.mk [114, 101, 97, 100, 95, 115, 111, 95, 109, 97, 110, 121]) := by kernel_rfl
theorem Oz : Str.ofString "gate" = Str.mk (.mk [103, 97, 116, 101]) := by kernel_rfl
theorem Om : Str.ofString "through_text" = Str.mk (.mk [116, 104, 114, 111, 117, 103, 104, 95, 116, 101, 120, 116]) := by kernel_rfl
theorem PN : Str.ofString "read_numbers" = Str.mk (.mk [114, 101, 97, 100, 95, 110, 117, 109, 98, 101, 114, 115]) := by kernel_rfl
theorem O9 : Str.ofString "foot" = Str.mk (.mk [102, 111, 111, 116]) := by kernel_rfl
theorem Mn : Str.ofString "head" = Str.mk (.mk [104, 101, 97, 100]) := by kernel_rfl
theorem NM : Str.ofString "ends" = Str.mk (.mk [101, 110, 100, 115]) := by kernel_rfl
theorem Nm : Str.ofString "bar" = Str.mk (.mk [98, 97, 114]) := by kernel_rfl
theorem OO : Str.ofString "end" = Str.mk (.mk [101, 110, 100]) := by kernel_rfl
theorem Nt : Str.ofString "place" = Str.mk (.mk [112, 108, 97, 99, 101]) := by kernel_rfl
theorem Lc : Str.ofString "zip" = Str.mk (.mk [122, 105, 112]) := by kernel_rfl
theorem NV : Str.ofString "gate_text" = Str.mk (.mk [103, 97, 116, 101, 95, 116, 101, 120, 116]) := by kernel_rfl
theorem Nu : Str.ofString "read_number" = Str.mk (.mk [114, 101, 97, 100, 95, 110, 117, 109, 98, 101, 114]) := by kernel_rfl
theorem Pb : Str.ofString "word" = Str.mk (.mk [119, 111, 114, 100]) := by kernel_rfl
theorem M0 : Str.ofString "many" = Str.mk (.mk [109, 97, 110, 121]) := by kernel_rfl
theorem L3 : Str.ofString "number" = Str.mk (.mk [110, 117, 109, 98, 101, 114]) := by kernel_rfl
theorem Nc : Str.ofString "write_fraction" = Str.mk (.mk [119, 114, 105, 116, 101, 95, 102, 114, 97, 99, 116, 105, 111, 110]) := by kernel_rfl
theorem OD : Str.ofString "deeds " = Str.mk (.mk [100, 101, 101, 100, 115, 32]) := by kernel_rfl
theorem NF : Str.ofString "are_figures" = Str.mk (.mk [97, 114, 101, 95, 102, 105, 103, 117, 114, 101, 115]) := by kernel_rfl
theorem Mw : Str.ofString "text" = Str.mk (.mk [116, 101, 120, 116]) := by kernel_rfl
theorem OZ : Str.ofString "MOST_FIGURES" = Str.mk (.mk [77, 79, 83, 84, 95, 70, 73, 71, 85, 82, 69, 83]) := by kernel_rfl
theorem Oj : Str.ofString "all" = Str.mk (.mk [97, 108, 108]) := by kernel_rfl
theorem Pa : Str.ofString "sign" = Str.mk (.mk [115, 105, 103, 110]) := by kernel_rfl
theorem Np : Str.ofString "FIGURES" = Str.mk (.mk [70, 73, 71, 85, 82, 69, 83]) := by kernel_rfl
theorem NT : Str.ofString "0" = Str.mk (.mk [48]) := by kernel_rfl
theorem OB : Str.ofString "figures" = Str.mk (.mk [102, 105, 103, 117, 114, 101, 115]) := by kernel_rfl
theorem NW : Str.ofString "startswith" = Str.mk (.mk [115, 116, 97, 114, 116, 115, 119, 105, 116, 104]) := by kernel_rfl
theorem MF : Str.ofString "-" = Str.mk (.mk [45]) := by kernel_rfl
theorem M4 : Str.ofString "this is not how a number is written" = Str.mk (.mk [116, 104, 105, 115, 32, 105, 115, 32, 110, 111, 116, 32, 104, 111, 119, 32, 97, 32, 110, 117, 109, 98, 101, 114, 32, 105, 115, 32, 119, 114, 105, 116, 116, 101, 110]) := by kernel_rfl
theorem N7 : Str.ofString "parts" = Str.mk (.mk [112, 97, 114, 116, 115]) := by kernel_rfl
theorem PH : Str.ofString "/" = Str.mk (.mk [47]) := by kernel_rfl
theorem PQ : Str.ofString "a fraction has one stroke at most" = Str.mk (.mk [97, 32, 102, 114, 97, 99, 116, 105, 111, 110, 32, 104, 97, 115, 32, 111, 110, 101, 32, 115, 116, 114, 111, 107, 101, 32, 97, 116, 32, 109, 111, 115, 116]) := by kernel_rfl
theorem Lp : Str.ofString "top" = Str.mk (.mk [116, 111, 112]) := by kernel_rfl
theorem MB : Str.ofString "bottom" = Str.mk (.mk [98, 111, 116, 116, 111, 109]) := by kernel_rfl
theorem NS : Str.ofString "fraction" = Str.mk (.mk [102, 114, 97, 99, 116, 105, 111, 110]) := by kernel_rfl
theorem LZ : Str.ofString "lowest" = Str.mk (.mk [108, 111, 119, 101, 115, 116]) := by kernel_rfl
theorem L8 : Str.ofString "throwgate.desk" = Str.mk (.mk [116, 104, 114, 111, 119, 103, 97, 116, 101, 46, 100, 101, 115, 107]) := by kernel_rfl
theorem PK : Str.ofString "too few or too many words" = Str.mk (.mk [116, 111, 111, 32, 102, 101, 119, 32, 111, 114, 32, 116, 111, 111, 32, 109, 97, 110, 121, 32, 119, 111, 114, 100, 115]) := by kernel_rfl
theorem MR : Str.ofString "check_places" = Str.mk (.mk [99, 104, 101, 99, 107, 95, 112, 108, 97, 99, 101, 115]) := by kernel_rfl
theorem Mj : Str.ofString "places" = Str.mk (.mk [112, 108, 97, 99, 101, 115]) := by kernel_rfl
theorem NB : Str.ofString "the list has no place" = Str.mk (.mk [116, 104, 101, 32, 108, 105, 115, 116, 32, 104, 97, 115, 32, 110, 111, 32, 112, 108, 97, 99, 101]) := by kernel_rfl
theorem PF : Str.ofString "MOST_GATES" = Str.mk (.mk [77, 79, 83, 84, 95, 71, 65, 84, 69, 83]) := by kernel_rfl
theorem N2 : Str.ofString "the list has too many places" = Str.mk (.mk [116, 104, 101, 32, 108, 105, 115, 116, 32, 104, 97, 115, 32, 116, 111, 111, 32, 109, 97, 110, 121, 32, 112, 108, 97, 99, 101, 115]) := by kernel_rfl
theorem Nb : Str.ofString "set" = Str.mk (.mk [115, 101, 116]) := by kernel_rfl
theorem Oa : Str.ofString "the list has a place twice" = Str.mk (.mk [116, 104, 101, 32, 108, 105, 115, 116, 32, 104, 97, 115, 32, 97, 32, 112, 108, 97, 99, 101, 32, 116, 119, 105, 99, 101]) := by kernel_rfl
theorem NP : Str.ofString "check_throw" = Str.mk (.mk [99, 104, 101, 99, 107, 95, 116, 104, 114, 111, 119]) := by kernel_rfl
theorem NH : Str.ofString "a bottom is below 1" = Str.mk (.mk [97, 32, 98, 111, 116, 116, 111, 109, 32, 105, 115, 32, 98, 101, 108, 111, 119, 32, 49]) := by kernel_rfl
theorem Ni : Str.ofString "GREAT_NUMBER" = Str.mk (.mk [71, 82, 69, 65, 84, 95, 78, 85, 77, 66, 69, 82]) := by kernel_rfl
theorem Mm : Str.ofString "a number of the throw is too great" = Str.mk (.mk [97, 32, 110, 117, 109, 98, 101, 114, 32, 111, 102, 32, 116, 104, 101, 32, 116, 104, 114, 111, 119, 32, 105, 115, 32, 116, 111, 111, 32, 103, 114, 101, 97, 116]) := by kernel_rfl
theorem Mp : Str.ofString "standing" = Str.mk (.mk [115, 116, 97, 110, 100, 105, 110, 103]) := by kernel_rfl
theorem Ld : Str.ofString "past" = Str.mk (.mk [112, 97, 115, 116]) := by kernel_rfl
theorem N8 : Str.ofString "has_gate" = Str.mk (.mk [104, 97, 115, 95, 103, 97, 116, 101]) := by kernel_rfl
theorem Oq : Str.ofString "gate_at" = Str.mk (.mk [103, 97, 116, 101, 95, 97, 116]) := by kernel_rfl
theorem OH : Str.ofString "no gate stands at this place" = Str.mk (.mk [110, 111, 32, 103, 97, 116, 101, 32, 115, 116, 97, 110, 100, 115, 32, 97, 116, 32, 116, 104, 105, 115, 32, 112, 108, 97, 99, 101]) := by kernel_rfl
theorem NQ : Str.ofString "do_deed" = Str.mk (.mk [100, 111, 95, 100, 101, 101, 100]) := by kernel_rfl
theorem Nw : Str.ofString "instead" = Str.mk (.mk [105, 110, 115, 116, 101, 97, 100]) := by kernel_rfl
theorem NX : Str.ofString "MOST_DEEDS" = Str.mk (.mk [77, 79, 83, 84, 95, 68, 69, 69, 68, 83]) := by kernel_rfl
theorem OM : Str.ofString "no more deeds may stand" = Str.mk (.mk [110, 111, 32, 109, 111, 114, 101, 32, 100, 101, 101, 100, 115, 32, 109, 97, 121, 32, 115, 116, 97, 110, 100]) := by kernel_rfl
theorem O7 : Str.ofString "others" = Str.mk (.mk [111, 116, 104, 101, 114, 115]) := by kernel_rfl
theorem Ny : Str.ofString "sorted" = Str.mk (.mk [115, 111, 114, 116, 101, 100]) := by kernel_rfl
theorem NZ : Str.ofString "a gate stands at this place already" = Str.mk (.mk [97, 32, 103, 97, 116, 101, 32, 115, 116, 97, 110, 100, 115, 32, 97, 116, 32, 116, 104, 105, 115, 32, 112, 108, 97, 99, 101, 32, 97, 108, 114, 101, 97, 100, 121]) := by kernel_rfl
theorem NU : Str.ofString "check_gate" = Str.mk (.mk [99, 104, 101, 99, 107, 95, 103, 97, 116, 101]) := by kernel_rfl
theorem M5 : Str.ofString "no more gates may stand" = Str.mk (.mk [110, 111, 32, 109, 111, 114, 101, 32, 103, 97, 116, 101, 115, 32, 109, 97, 121, 32, 115, 116, 97, 110, 100]) := by kernel_rfl
theorem Pc : Str.ofString "foot_by" = Str.mk (.mk [102, 111, 111, 116, 95, 98, 121]) := by kernel_rfl
theorem M9 : Str.ofString "head_by" = Str.mk (.mk [104, 101, 97, 100, 95, 98, 121]) := by kernel_rfl
theorem PD : Str.ofString "before" = Str.mk (.mk [98, 101, 102, 111, 114, 101]) := by kernel_rfl
theorem NC : Str.ofString "one deed is the least that is taken back" = Str.mk (.mk [111, 110, 101, 32, 100, 101, 101, 100, 32, 105, 115, 32, 116, 104, 101, 32, 108, 101, 97, 115, 116, 32, 116, 104, 97, 116, 32, 105, 115, 32, 116, 97, 107, 101, 110, 32, 98, 97, 99, 107]) := by kernel_rfl
theorem Mf : Str.ofString "fewer deeds stand" = Str.mk (.mk [102, 101, 119, 101, 114, 32, 100, 101, 101, 100, 115, 32, 115, 116, 97, 110, 100]) := by kernel_rfl
theorem Lr : Str.ofString "left" = Str.mk (.mk [108, 101, 102, 116]) := by kernel_rfl
theorem OS : Str.ofString "gates_at" = Str.mk (.mk [103, 97, 116, 101, 115, 95, 97, 116]) := by kernel_rfl
theorem Nz : Str.ofString "two_gates_at" = Str.mk (.mk [116, 119, 111, 95, 103, 97, 116, 101, 115, 95, 97, 116]) := by kernel_rfl
theorem Mh : Str.ofString "one gate alone has no steepest and no flattest throw" = Str.mk (.mk [111, 110, 101, 32, 103, 97, 116, 101, 32, 97, 108, 111, 110, 101, 32, 104, 97, 115, 32, 110, 111, 32, 115, 116, 101, 101, 112, 101, 115, 116, 32, 97, 110, 100, 32, 110, 111, 32, 102, 108, 97, 116, 116, 101, 115, 116, 32, 116, 104, 114, 111, 119]) := by kernel_rfl
theorem Ls : Str.ofString "throw_through" = Str.mk (.mk [116, 104, 114, 111, 119, 95, 116, 104, 114, 111, 117, 103, 104]) := by kernel_rfl
theorem MH : Str.ofString "steepest_throw" = Str.mk (.mk [115, 116, 101, 101, 112, 101, 115, 116, 95, 116, 104, 114, 111, 119]) := by kernel_rfl
theorem MC : Str.ofString "flattest_throw" = Str.mk (.mk [102, 108, 97, 116, 116, 101, 115, 116, 95, 116, 104, 114, 111, 119]) := by kernel_rfl
theorem ND : Str.ofString "fewest_runs" = Str.mk (.mk [102, 101, 119, 101, 115, 116, 95, 114, 117, 110, 115]) := by kernel_rfl
theorem Nl : Str.ofString "SMALL_BEACH" = Str.mk (.mk [83, 77, 65, 76, 76, 95, 66, 69, 65, 67, 72]) := by kernel_rfl
theorem Ow : Str.ofString "the most are told of a small beach that is not empty" = Str.mk (.mk [116, 104, 101, 32, 109, 111, 115, 116, 32, 97, 114, 101, 32, 116, 111, 108, 100, 32, 111, 102, 32, 97, 32, 115, 109, 97, 108, 108, 32, 98, 101, 97, 99, 104, 32, 116, 104, 97, 116, 32, 105, 115, 32, 110, 111, 116, 32, 101, 109, 112, 116, 121]) := by kernel_rfl
theorem MP : Str.ofString "most_gates" = Str.mk (.mk [109, 111, 115, 116, 95, 103, 97, 116, 101, 115]) := by kernel_rfl
theorem PJ : Str.ofString "places_passed" = Str.mk (.mk [112, 108, 97, 99, 101, 115, 95, 112, 97, 115, 115, 101, 100]) := by kernel_rfl
theorem ON : Str.ofString "throwgate.texts" = Str.mk (.mk [116, 104, 114, 111, 119, 103, 97, 116, 101, 46, 116, 101, 120, 116, 115]) := by kernel_rfl
theorem MI : Str.ofString "0123456789" = Str.mk (.mk [48, 49, 50, 51, 52, 53, 54, 55, 56, 57]) := by kernel_rfl
theorem No : Str.ofString "longer" = Str.mk (.mk [108, 111, 110, 103, 101, 114]) := by kernel_rfl
theorem Ma : Str.ofString "longer_throw" = Str.mk (.mk [108, 111, 110, 103, 101, 114, 95, 116, 104, 114, 111, 119]) := by kernel_rfl
theorem L9 : Str.ofString "common_throw" = Str.mk (.mk [99, 111, 109, 109, 111, 110, 95, 116, 104, 114, 111, 119]) := by kernel_rfl
theorem MV : Str.ofString "run_told" = Str.mk (.mk [114, 117, 110, 95, 116, 111, 108, 100]) := by kernel_rfl
theorem Nh : Str.ofString "throwgate.small" = Str.mk (.mk [116, 104, 114, 111, 119, 103, 97, 116, 101, 46, 115, 109, 97, 108, 108]) := by kernel_rfl
theorem MQ : Str.ofString "tried_throws" = Str.mk (.mk [116, 114, 105, 101, 100, 95, 116, 104, 114, 111, 119, 115]) := by kernel_rfl
theorem N6 : Str.ofString "ordered" = Str.mk (.mk [111, 114, 100, 101, 114, 101, 100]) := by kernel_rfl
theorem MT : Str.ofString "throws" = Str.mk (.mk [116, 104, 114, 111, 119, 115]) := by kernel_rfl
theorem Mv : Str.ofString "index" = Str.mk (.mk [105, 110, 100, 101, 120]) := by kernel_rfl
theorem Og : Str.ofString "earlier" = Str.mk (.mk [101, 97, 114, 108, 105, 101, 114]) := by kernel_rfl
theorem On : Str.ofString "enumerate" = Str.mk (.mk [101, 110, 117, 109, 101, 114, 97, 116, 101]) := by kernel_rfl
theorem Lm : Str.ofString "later" = Str.mk (.mk [108, 97, 116, 101, 114]) := by kernel_rfl
theorem NJ : Str.ofString "line_by" = Str.mk (.mk [108, 105, 110, 101, 95, 98, 121]) := by kernel_rfl
theorem MM : Str.ofString "tried" = Str.mk (.mk [116, 114, 105, 101, 100]) := by kernel_rfl
theorem Ol : Str.ofString "key" = Str.mk (.mk [107, 101, 121]) := by kernel_rfl
theorem Ou : Str.ofString "throwgate.beach" = Str.mk (.mk [116, 104, 114, 111, 119, 103, 97, 116, 101, 46, 98, 101, 97, 99, 104]) := by kernel_rfl
theorem MY : Str.ofString "the foot would be above the head" = Str.mk (.mk [116, 104, 101, 32, 102, 111, 111, 116, 32, 119, 111, 117, 108, 100, 32, 98, 101, 32, 97, 98, 111, 118, 101, 32, 116, 104, 101, 32, 104, 101, 97, 100]) := by kernel_rfl
theorem Nx : Str.ofString "LEAST" = Str.mk (.mk [76, 69, 65, 83, 84]) := by kernel_rfl
theorem Lu : Str.ofString "GREATEST" = Str.mk (.mk [71, 82, 69, 65, 84, 69, 83, 84]) := by kernel_rfl
theorem Ob : Str.ofString "a place, foot or head would be out of bounds" = Str.mk (.mk [97, 32, 112, 108, 97, 99, 101, 44, 32, 102, 111, 111, 116, 32, 111, 114, 32, 104, 101, 97, 100, 32, 119, 111, 117, 108, 100, 32, 98, 101, 32, 111, 117, 116, 32, 111, 102, 32, 98, 111, 117, 110, 100, 115]) := by kernel_rfl
theorem Ms : Str.ofString "found" = Str.mk (.mk [102, 111, 117, 110, 100]) := by kernel_rfl
theorem MA : Str.ofString "steepest_found" = Str.mk (.mk [115, 116, 101, 101, 112, 101, 115, 116, 95, 102, 111, 117, 110, 100]) := by kernel_rfl
theorem NG : Str.ofString "bar_told" = Str.mk (.mk [98, 97, 114, 95, 116, 111, 108, 100]) := by kernel_rfl
theorem O4 : Str.ofString "turned_over" = Str.mk (.mk [116, 117, 114, 110, 101, 100, 95, 111, 118, 101, 114]) := by kernel_rfl
theorem NL : Str.ofString "turned_throw" = Str.mk (.mk [116, 117, 114, 110, 101, 100, 95, 116, 104, 114, 111, 119]) := by kernel_rfl
theorem Oo : Str.ofString "throwgate.shore" = Str.mk (.mk [116, 104, 114, 111, 119, 103, 97, 116, 101, 46, 115, 104, 111, 114, 101]) := by kernel_rfl
theorem O3 : Str.ofString "tightest_pair" = Str.mk (.mk [116, 105, 103, 104, 116, 101, 115, 116, 95, 112, 97, 105, 114]) := by kernel_rfl
theorem N1 : Str.ofString "pair" = Str.mk (.mk [112, 97, 105, 114]) := by kernel_rfl
theorem MX : Str.ofString "compare" = Str.mk (.mk [99, 111, 109, 112, 97, 114, 101]) := by kernel_rfl
theorem Nd : Str.ofString "foot_to_head" = Str.mk (.mk [102, 111, 111, 116, 95, 116, 111, 95, 104, 101, 97, 100]) := by kernel_rfl
theorem Oh : Str.ofString "foot_place" = Str.mk (.mk [102, 111, 111, 116, 95, 112, 108, 97, 99, 101]) := by kernel_rfl
theorem OT : Str.ofString "head_place" = Str.mk (.mk [104, 101, 97, 100, 95, 112, 108, 97, 99, 101]) := by kernel_rfl
theorem N3 : Str.ofString "passes_all" = Str.mk (.mk [112, 97, 115, 115, 101, 115, 95, 97, 108, 108]) := by kernel_rfl
theorem Mg : Str.ofString "level_throw" = Str.mk (.mk [108, 101, 118, 101, 108, 95, 116, 104, 114, 111, 119]) := by kernel_rfl
theorem MG : Str.ofString "first_three" = Str.mk (.mk [102, 105, 114, 115, 116, 95, 116, 104, 114, 101, 101]) := by kernel_rfl
theorem OP : Str.ofString "other" = Str.mk (.mk [111, 116, 104, 101, 114]) := by kernel_rfl
theorem Lw : Str.ofString "second" = Str.mk (.mk [115, 101, 99, 111, 110, 100]) := by kernel_rfl
theorem My : Str.ofString "steps" = Str.mk (.mk [115, 116, 101, 112, 115]) := by kernel_rfl
theorem MU : Str.ofString "gain" = Str.mk (.mk [103, 97, 105, 110]) := by kernel_rfl
theorem Lv : Str.ofString "start" = Str.mk (.mk [115, 116, 97, 114, 116]) := by kernel_rfl
theorem Lg : Str.ofString "passes" = Str.mk (.mk [112, 97, 115, 115, 101, 115]) := by kernel_rfl
theorem Ox : Str.ofString "height_at" = Str.mk (.mk [104, 101, 105, 103, 104, 116, 95, 97, 116]) := by kernel_rfl
theorem Mu : Str.ofString "throwgate.lists" = Str.mk (.mk [116, 104, 114, 111, 119, 103, 97, 116, 101, 46, 108, 105, 115, 116, 115]) := by kernel_rfl
theorem Op : Str.ofString "throwgate.fracs" = Str.mk (.mk [116, 104, 114, 111, 119, 103, 97, 116, 101, 46, 102, 114, 97, 99, 115]) := by kernel_rfl
theorem Ly : Str.ofString "greatest_divisor" = Str.mk (.mk [103, 114, 101, 97, 116, 101, 115, 116, 95, 100, 105, 118, 105, 115, 111, 114]) := by kernel_rfl
theorem Lo : Str.ofString "one" = Str.mk (.mk [111, 110, 101]) := by kernel_rfl
theorem OF : Str.ofString "two" = Str.mk (.mk [116, 119, 111]) := by kernel_rfl
theorem Ml : Str.ofString "divisor" = Str.mk (.mk [100, 105, 118, 105, 115, 111, 114]) := by kernel_rfl
theorem Md : Str.ofString "rest" = Str.mk (.mk [114, 101, 115, 116]) := by kernel_rfl
theorem Lj : Str.ofString "next_rest" = Str.mk (.mk [110, 101, 120, 116, 95, 114, 101, 115, 116]) := by kernel_rfl
theorem M6 : Str.ofString "abs" = Str.mk (.mk [97, 98, 115]) := by kernel_rfl
theorem MZ : Str.ofString "right" = Str.mk (.mk [114, 105, 103, 104, 116]) := by kernel_rfl
theorem MS : Str.ofString "throwgate.lines" = Str.mk (.mk [116, 104, 114, 111, 119, 103, 97, 116, 101, 46, 108, 105, 110, 101, 115]) := by kernel_rfl
theorem Mt : Str.ofString "height_top" = Str.mk (.mk [104, 101, 105, 103, 104, 116, 95, 116, 111, 112]) := by kernel_rfl
theorem Mr : Str.ofString "height_bottom" = Str.mk (.mk [104, 101, 105, 103, 104, 116, 95, 98, 111, 116, 116, 111, 109]) := by kernel_rfl
theorem La : Str.ofString "rise_top" = Str.mk (.mk [114, 105, 115, 101, 95, 116, 111, 112]) := by kernel_rfl
theorem Os : Str.ofString "rise_bottom" = Str.mk (.mk [114, 105, 115, 101, 95, 98, 111, 116, 116, 111, 109]) := by kernel_rfl
theorem N9 : Str.ofString "BeachError" = Str.mk (.mk [66, 101, 97, 99, 104, 69, 114, 114, 111, 114]) := by kernel_rfl
theorem Ng : Str.ofString "throwgate.bars" = Str.mk (.mk [116, 104, 114, 111, 119, 103, 97, 116, 101, 46, 98, 97, 114, 115]) := by kernel_rfl
theorem Ot : Str.ofString "side_of_line" = Str.mk (.mk [115, 105, 100, 101, 95, 111, 102, 95, 108, 105, 110, 101]) := by kernel_rfl
theorem MJ : Str.ofString "barring" = Str.mk (.mk [98, 97, 114, 114, 105, 110, 103]) := by kernel_rfl
theorem M7 : Str.ofString "three" = Str.mk (.mk [116, 104, 114, 101, 101]) := by kernel_rfl
theorem Oi : Str.ofString "count" = Str.mk (.mk [99, 111, 117, 110, 116]) := by kernel_rfl
theorem MD : Str.ofString "first" = Str.mk (.mk [102, 105, 114, 115, 116]) := by kernel_rfl
theorem OE : Str.ofString "middle" = Str.mk (.mk [109, 105, 100, 100, 108, 101]) := by kernel_rfl
theorem Le : Str.ofString "last" = Str.mk (.mk [108, 97, 115, 116]) := by kernel_rfl
theorem PB : Str.ofString "throwgate.errors" = Str.mk (.mk [116, 104, 114, 111, 119, 103, 97, 116, 101, 46, 101, 114, 114, 111, 114, 115]) := by kernel_rfl
theorem NR : Str.ofString "ValueError" = Str.mk (.mk [86, 97, 108, 117, 101, 69, 114, 114, 111, 114]) := by kernel_rfl
theorem OA : Str.ofString "/claim/cut.py" = Str.mk (.mk [47, 99, 108, 97, 105, 109, 47, 99, 117, 116, 46, 112, 121]) := by kernel_rfl
noncomputable def Tw : PSigma fun t : Program => PySem.Challenge.pw_throwgate_k36_apart = t := by
 have h := Gq
 simp only [EqA, at_0, at_1, at_2, at_3, at_4, at_5, at_6, at_7, at_8, at_9, at_10, at_11, at_12, at_13, at_14, at_15, at_16, at_17, at_18, at_19, at_20, at_21, at_22, at_23, at_24, at_25, at_26, at_27, at_28, at_29, at_30, at_31, at_32, at_33, at_34, at_35, at_36, at_37, at_38, at_39, at_40, at_41, at_42, at_43, at_44, at_45, at_46, at_47, at_48, at_49, at_50, at_51, at_52, at_53, at_54, at_55, at_56, at_57, at_58, at_59, at_60, at_61, at_62, at_63, at_64, at_65, at_66, at_67, at_68, at_69, at_70, at_71, at_72, at_73, at_74, at_75, at_76, at_77, at_78, at_79, at_80, at_81, at_82, at_83, at_84, at_85, at_86, at_87, at_88, at_89, at_90, at_91, at_92, at_93, at_94, at_95, at_96, at_97, at_98, at_99, Nj, Mq, O2, OC, NK, O0, M2, Lq, O5, O8, L5, N4, Mo, OK, OJ, Lb, M8, MW, Oz, Om, PN, O9, Mn, NM, Nm, OO, Nt, Lc, NV, Nu, Pb, M0, L3, Nc, OD, NF, Mw, OZ, Oj, Pa, Np, NT, OB, NW, MF, M4, N7, PH, PQ, Lp, MB, NS, LZ, L8, PK, MR, Mj, NB, PF, N2, Nb, Oa, NP, NH, Ni, Mm, Mp, Ld, N8, Oq, OH, NQ, Nw, NX, OM, O7, Ny, NZ, NU, M5, Pc, M9, PD, NC, Mf, Lr, OS, Nz, Mh, Ls, MH, MC, ND, Nl, Ow, MP, PJ, ON, MI, No, Ma, L9, MV, Nh, MQ, N6, MT, Mv, Og, On, Lm, NJ, MM, Ol, Ou, MY, Nx, Lu, Ob, Ms, MA, NG, O4, NL, Oo, O3, N1, MX, Nd, Oh, OT, N3, Mg, MG, OP, Lw, My, MU, Lv, Lg, Ox, Mu, Op, Ly, Lo, OF, Ml, Md, Lj, M6, MZ, MS, Mt, Mr, La, Os, N9, Ng, Ot, MJ, M7, Oi, MD, OE, Le, PB, NR, OA] at h
 exact ⟨_, h⟩
noncomputable def _root_.PySem.W.Fast.tw16688773946400675066 : PySem.Program := TG.Tw.1
theorem _root_.PySem.W.Fast.te16688773946400675066 : PySem.Challenge.pw_throwgate_k36_apart = PySem.W.Fast.tw16688773946400675066 := TG.Tw.2
set_option hygiene false
local macro_rules | `(tactic| walk_at "NX") => `(tactic| (refine hM _ _ ?_; clear hM; clear M))
local macro_rules | `(tactic| walk_at "Q") => `(tactic| (refine KT fun M hM => ?_))
local macro_rules | `(tactic| walk_at "LN") => `(tactic| (first | (obtain ⟨rfl, _⟩ := h; rfl) | (obtain ⟨_, h⟩ := h; walk_at "LN")))
local macro_rules | `(tactic| walk_at "I2") => `(tactic| (intro cdv A outer s H vs Q E hr h; have hu := hu_of hr))
local macro_rules | `(tactic| walk_at "b1") => `(tactic| (obtain ⟨x0, rfl⟩ := LA hl; rfl))
local macro_rules | `(tactic| walk_at "b2") => `(tactic| (obtain ⟨x0, x1, rfl⟩ := Lk hl; rfl))
local macro_rules | `(tactic| walk_at "b3") => `(tactic| (obtain ⟨x0, x1, x2, rfl⟩ := Nk hl; rfl))
local macro_rules | `(tactic| walk_at "b4") => `(tactic| (obtain ⟨x0, x1, x2, x3, rfl⟩ := len4 hl; rfl))
local macro_rules | `(tactic| walk_at "SC") => `(tactic| (exact ⟨rfl, rfl, rfl, by decide +kernel, rfl, by decide +kernel, by decide +kernel⟩))
local macro_rules | `(tactic| walk_at "SQT0") => `(tactic| (first | with_reducible assumption | exact SqT.of (by with_reducible assumption)))
local macro_rules | `(tactic| walk_at "SQL0") => `(tactic| (first | with_reducible assumption | exact SqL.of (by with_reducible assumption)))
local macro_rules | `(tactic| walk_at "SAT0") => `(tactic| (with_reducible assumption))
local macro_rules | `(tactic| walk_at "SQT1") => `(tactic| (first | with_reducible assumption | exact SqT.of (by with_reducible assumption) | exact AH.tup (by with_reducible assumption) (by walk_at "SQT0")))
local macro_rules | `(tactic| walk_at "SQL1") => `(tactic| (first | with_reducible assumption | exact SqL.of (by with_reducible assumption) | exact AH.seq (by with_reducible assumption) (by walk_at "SQL0")))
local macro_rules | `(tactic| walk_at "SAT1") => `(tactic| (first | with_reducible assumption | exact AH.get (by with_reducible assumption) (by walk_at "SAT0")))
local macro_rules | `(tactic| walk_at "SQT2") => `(tactic| (first | with_reducible assumption | exact SqT.of (by with_reducible assumption) | exact AH.tup (by with_reducible assumption) (by walk_at "SQT1")))
local macro_rules | `(tactic| walk_at "SQL2") => `(tactic| (first | with_reducible assumption | exact SqL.of (by with_reducible assumption) | exact AH.seq (by with_reducible assumption) (by walk_at "SQL1")))
local macro_rules | `(tactic| walk_at "SAT2") => `(tactic| (first | with_reducible assumption | exact AH.get (by with_reducible assumption) (by walk_at "SAT1")))
local macro_rules | `(tactic| walk_at "SQT3") => `(tactic| (first | with_reducible assumption | exact SqT.of (by with_reducible assumption) | exact AH.tup (by with_reducible assumption) (by walk_at "SQT2")))
local macro_rules | `(tactic| walk_at "SQL3") => `(tactic| (first | with_reducible assumption | exact SqL.of (by with_reducible assumption) | exact AH.seq (by with_reducible assumption) (by walk_at "SQL2")))
local macro_rules | `(tactic| walk_at "SAT3") => `(tactic| (first | with_reducible assumption | exact AH.get (by with_reducible assumption) (by walk_at "SAT2")))
local macro_rules | `(tactic| walk_at "SQT4") => `(tactic| (first | with_reducible assumption | exact SqT.of (by with_reducible assumption) | exact AH.tup (by with_reducible assumption) (by walk_at "SQT3")))
local macro_rules | `(tactic| walk_at "SQL4") => `(tactic| (first | with_reducible assumption | exact SqL.of (by with_reducible assumption) | exact AH.seq (by with_reducible assumption) (by walk_at "SQL3")))
local macro_rules | `(tactic| walk_at "SAT4") => `(tactic| (first | with_reducible assumption | exact AH.get (by with_reducible assumption) (by walk_at "SAT3")))
local macro_rules | `(tactic| walk_at "SQT5") => `(tactic| (first | with_reducible assumption | exact SqT.of (by with_reducible assumption) | exact AH.tup (by with_reducible assumption) (by walk_at "SQT4")))
local macro_rules | `(tactic| walk_at "SQL5") => `(tactic| (first | with_reducible assumption | exact SqL.of (by with_reducible assumption) | exact AH.seq (by with_reducible assumption) (by walk_at "SQL4")))
local macro_rules | `(tactic| walk_at "SAT5") => `(tactic| (first | with_reducible assumption | exact AH.get (by with_reducible assumption) (by walk_at "SAT4")))
local macro_rules | `(tactic| walk_at "SQT6") => `(tactic| (first | with_reducible assumption | exact SqT.of (by with_reducible assumption) | exact AH.tup (by with_reducible assumption) (by walk_at "SQT5")))
local macro_rules | `(tactic| walk_at "SQL6") => `(tactic| (first | with_reducible assumption | exact SqL.of (by with_reducible assumption) | exact AH.seq (by with_reducible assumption) (by walk_at "SQL5")))
local macro_rules | `(tactic| walk_at "SAT6") => `(tactic| (first | with_reducible assumption | exact AH.get (by with_reducible assumption) (by walk_at "SAT5")))
local macro_rules | `(tactic| walk_at "RD") => `(tactic| ((try dsimp only [HL, GJ, Hu, Fu, E8, GW, JE, Fj, Eo, Bh, F4, D9, C9, tOp, tUn, Dy, tC, CQ, CO, Ds, CU, tCB, Cw, Ct, rI, rI0, rU, rEq, rNe, BV, BX, BN, BS, BW, BM, BR, BA, BL, BB, BU, BQ, BZ, BY, Fc, Fd, tOr, Cy, GK, Cz, tB, tIf, Fa, Ei, C0, BO, A7, CI, GU, Gb, De, Bp, Bu, GI, BP, Dd, GR, Do, GL, GO, Dq, A8, CL, Cr, DV, BE, Bw, tSl, FM, A6, Cv, FU, DY, rIn, FN, Cb, DW, B5, CA, Gj, Cs, FO, CC, Dg, Dj, DJ, DI, L2.start, if_true, if_false, List.map_cons, List.map_nil, List.length_cons, List.length_nil, List.cons_append, List.nil_append, List.replicate, List.set_cons_zero, List.set_cons_succ, List.getElem?_cons_zero, List.getElem?_cons_succ, Nat.reduceAdd, Nat.reduceSub, Int.reduceToNat, Int.reduceNeg, Int.reduceMul, Int.reduceAdd, Int.reduceSub]); (try simp only [HL, GJ, Hu, Fu, E8, GW, JE, Fj, Eo, Bh, F4, D9, C9, tOp, tUn, Dy, tC, CQ, CO, Ds, CU, tCB, Cw, Ct, rI, rI0, rU, rEq, rNe, BV, BX, BN, BS, BW, BM, BR, BA, BL, BB, BU, BQ, BZ, BY, Fc, Fd, tOr, Cy, GK, Cz, tB, tIf, Fa, Ei, Ix, HX, Iz, C0, BO, A7, CI, GU, Gb, De, Bp, Bu, GI, BP, Dd, GR, Do, GL, GO, Dq, A8, CL, Cr, DV, BE, Bw, tSl, FM, A6, Cv, FU, DY, rIn, FN, Cb, DW, B5, CA, Gj, Cs, FO, CC, Dg, Dj, DJ, DI, L2.start, cxK, exists_and_right, and_assoc, Int.reduceLE, Int.reduceLT, Nat.reduceLT, Nat.reducePow, Int.reducePow, EE, F2, false_and, exists_false, and_false, if_true, if_false, decide_true, decide_false, Bool.false_eq_true, Bool.not_true, Bool.not_false, List.map_cons, List.map_nil, List.length_cons, List.length_nil, List.cons_append, List.nil_append, List.append_nil, List.replicate, List.set_cons_zero, List.set_cons_succ, List.getElem?_cons_zero, List.getElem?_cons_succ, Option.some.injEq, V.int.injEq, V.bl.injEq, V.ref.injEq, V.ty.injEq, V.str.injEq, List.cons.injEq, exists_eq_left', exists_and_left, exists_eq_left, true_and, and_true, true_or, or_true, Nat.reduceAdd, Nat.reduceSub, Int.reduceToNat, Int.reduceNeg, Int.reduceMul, Int.reduceAdd, Int.reduceSub, Bool.not_eq_true, Bool.not_not, forall_const])))
local macro_rules | `(tactic| walk_at "STEP") => `(tactic| ((first | (with_reducible refine ⟨_, rfl, ?_⟩) | (with_reducible apply DO; · exact rfl) | (with_reducible apply DO; · (walk_at "SQT6")) | (with_reducible apply DO; · (walk_at "SQL6")) | (with_reducible apply DO; · (walk_at "SAT6")) | (with_reducible apply DO; · exact HE (by omega) (by omega)) | (with_reducible apply exOrL; · (walk_at "SQL6")) | (with_reducible apply exOrR; · (walk_at "SQT6")) | (with_reducible apply DO; · exact Cd.tup (by walk_at "SAT6")) | (with_reducible apply DO; · exact Cd.lst (by walk_at "SAT6")) | (with_reducible apply DO; · exact Cd.int _) | (with_reducible apply DO; · exact Cd.str _) | (with_reducible apply And.intro; · (first | exact rfl | exact BA | exact BB | decide | with_reducible assumption | omega | exact ⟨_, rfl⟩ | exact ⟨_, (by walk_at "SQL6")⟩ | exact ⟨_, (by walk_at "SQT6")⟩ | exact ⟨_, (by walk_at "SAT6")⟩ | (simp only [List.length_map, List.length_append, List.length_cons, List.length_nil, PySem.sizeLine_eq]; omega) | first | with_reducible assumption | exact Sm.of (n := 10 ^ 120) (by omega) (by decide +kernel))) | (with_reducible intro p H' hn hs he; (have ck := Mz hs); clear ck) | (with_reducible apply Nr; · (first | decide | (simp; done) | (simp; omega))) | (with_reducible apply PV; · (first | decide | (simp; done) | (simp; omega))))))
local macro_rules | `(tactic| walk_at "AUTO") => `(tactic| (repeat walk_at "STEP"))
local macro_rules | `(tactic| delta $ids*) => do
  let ls ← ids.mapM fun i => `(Lean.Parser.Tactic.simpLemma| $i:ident)
  `(tactic| (try dsimp only [HL, GJ, Hu, Fu, E8, GW, JE, Fj, Eo, Bh, F4, D9, C9, tOp, tUn, Dy, tC, CQ, CO, Ds, CU, tCB, Cw, Ct, rI, rI0, rU, rEq, rNe, BV, BX, BN, BS, BW, BM, BR, BA, BL, BB, BU, BQ, BZ, BY, Fc, Fd, tOr, Cy, GK, Cz, tB, tIf, Fa, Ei, C0, BO, A7, CI, GU, Gb, De, Bp, Bu, GI, BP, Dd, GR, Do, GL, GO, Dq, A8, CL, Cr, DV, BE, Bw, tSl, FM, A6, Cv, FU, DY, rIn, FN, Cb, DW, B5, CA, Gj, Cs, FO, CC, Dg, Dj, DJ, DI, L2.start, if_true, if_false, List.map_cons, List.map_nil, List.length_cons, List.length_nil, List.cons_append, List.nil_append, List.replicate, List.set_cons_zero, List.set_cons_succ, List.getElem?_cons_zero, List.getElem?_cons_succ, Nat.reduceAdd, Nat.reduceSub, Int.reduceToNat, Int.reduceNeg, Int.reduceMul, Int.reduceAdd, Int.reduceSub, $ls,*]); (try simp only [HL, GJ, Hu, Fu, E8, GW, JE, Fj, Eo, Bh, F4, D9, C9, tOp, tUn, Dy, tC, CQ, CO, Ds, CU, tCB, Cw, Ct, rI, rI0, rU, rEq, rNe, BV, BX, BN, BS, BW, BM, BR, BA, BL, BB, BU, BQ, BZ, BY, Fc, Fd, tOr, Cy, GK, Cz, tB, tIf, Fa, Ei, Ix, HX, Iz, C0, BO, A7, CI, GU, Gb, De, Bp, Bu, GI, BP, Dd, GR, Do, GL, GO, Dq, A8, CL, Cr, DV, BE, Bw, tSl, FM, A6, Cv, FU, DY, rIn, FN, Cb, DW, B5, CA, Gj, Cs, FO, CC, Dg, Dj, DJ, DI, L2.start, cxK, exists_and_right, and_assoc, Int.reduceLE, Int.reduceLT, Nat.reduceLT, Nat.reducePow, Int.reducePow, EE, F2, false_and, exists_false, and_false, if_true, if_false, decide_true, decide_false, Bool.false_eq_true, Bool.not_true, Bool.not_false, List.map_cons, List.map_nil, List.length_cons, List.length_nil, List.cons_append, List.nil_append, List.append_nil, List.replicate, List.set_cons_zero, List.set_cons_succ, List.getElem?_cons_zero, List.getElem?_cons_succ, Option.some.injEq, V.int.injEq, V.bl.injEq, V.ref.injEq, V.ty.injEq, V.str.injEq, List.cons.injEq, exists_eq_left', exists_and_left, exists_eq_left, true_and, and_true, true_or, or_true, Nat.reduceAdd, Nat.reduceSub, Int.reduceToNat, Int.reduceNeg, Int.reduceMul, Int.reduceAdd, Int.reduceSub, Bool.not_eq_true, Bool.not_not, forall_const, $ls,*]))
noncomputable def E7 : List (Str × Str) := [("put", "put_row"), ("take", "take_row"), ("lift", "lift_row"), ("sink", "sink_row"), ("back", "back_row"), ("deeds", "deeds_row"), ("gates", "gates_row"), ("through", "through_row"), ("steepest", "steepest_row"), ("flattest", "flattest_row"), ("runs", "runs_row"), ("most", "most_row"), ("passed", "passed_row")]
noncomputable def top (i : Nat) : Stmt := PySem.Challenge.pw_throwgate_k36_apart.main.body.getD i (.Pass ⟨0, 0, 0, 0⟩)
noncomputable abbrev CJ : Stmt := top 53
noncomputable abbrev B8 : Stmt := Bo (top 56) 0
noncomputable abbrev A4 : Stmt := Bo (top 56) 1
noncomputable abbrev BI : Stmt := Bo (top 56) 3
noncomputable abbrev Cc : Stmt := Bo (top 56) 4
noncomputable abbrev CD : Stmt := Bo (top 56) 8
noncomputable abbrev Bq : Stmt := Bo (top 56) 9
noncomputable abbrev Bx : Stmt := top 60
noncomputable abbrev Br : Stmt := top 61
noncomputable abbrev B6 : Stmt := top 65
noncomputable abbrev Bf : Stmt := top 66
noncomputable abbrev Bg : Stmt := top 67
noncomputable abbrev Bc : Stmt := top 68
noncomputable abbrev CV : Stmt := top 70
noncomputable abbrev CG : Stmt := top 71
noncomputable abbrev EB : Stmt := top 74
noncomputable abbrev DB : Stmt := top 78
noncomputable abbrev CW : Stmt := top 80
noncomputable abbrev C8 : Stmt := top 88
noncomputable abbrev CF : Stmt := top 89
noncomputable abbrev CT : Stmt := Bo (top 90) 0
noncomputable abbrev Bv : Stmt := Bo (top 90) 1
noncomputable abbrev EF : Stmt := top 92
noncomputable abbrev CS : Stmt := top 93
noncomputable abbrev Em : Stmt := top 94
noncomputable abbrev Dr : Stmt := top 95
noncomputable abbrev IW : Stmt := top 96
noncomputable abbrev qv : Program := { PySem.Challenge.pw_throwgate_k36_apart with main := { PySem.Challenge.pw_throwgate_k36_apart.main with body := [IW] } }
noncomputable def NE : List Str := [Str.ofString "LEAST", Str.ofString "GREATEST", Str.ofString "MOST_GATES", Str.ofString "MOST_DEEDS", Str.ofString "SMALL_BEACH", Str.ofString "GREAT_NUMBER", Str.ofString "BeachError", Str.ofString "NoGate"]
noncomputable def Pe : List Str := [Str.ofString "Taken", Str.ofString "UpsideDown", Str.ofString "OutOfBounds", Str.ofString "BeachFull", Str.ofString "DeedsFull", Str.ofString "NothingBack", Str.ofString "BadList", Str.ofString "TooFew"]
noncomputable def PU : List Str := [Str.ofString "WrongSize", Str.ofString "BadThrow", Str.ofString "BadRow", Str.ofString "side_of_line", Str.ofString "barring", Str.ofString "first_three", Str.ofString "greatest_divisor", Str.ofString "lowest"]
noncomputable def NN : List Str := [Str.ofString "compare", Str.ofString "height_at", Str.ofString "line_by", Str.ofString "passes", Str.ofString "passes_all", Str.ofString "places_passed", Str.ofString "foot_to_head", Str.ofString "tightest_pair"]
noncomputable def Lz : List Str := [Str.ofString "steepest_found", Str.ofString "level_throw", Str.ofString "common_throw", Str.ofString "bar_told", Str.ofString "throw_through", Str.ofString "steepest_throw", Str.ofString "turned_over", Str.ofString "turned_throw"]
noncomputable def O1 : List Str := [Str.ofString "flattest_throw", Str.ofString "run_told", Str.ofString "fewest_runs", Str.ofString "tried_throws", Str.ofString "most_gates", Str.ofString "check_gate", Str.ofString "check_places", Str.ofString "check_throw"]
noncomputable def N5 : List Str := [Str.ofString "Beach", Str.ofString "FIGURES", Str.ofString "MOST_FIGURES", Str.ofString "are_figures", Str.ofString "read_number", Str.ofString "read_fraction", Str.ofString "write_fraction", Str.ofString "check_many"]
noncomputable def Oy : List Str := [Str.ofString "read_numbers", Str.ofString "read_so_many", Str.ofString "number_words", Str.ofString "throw_words", Str.ofString "gate_text", Str.ofString "deeds_text", Str.ofString "through_text", Str.ofString "run_word"]
noncomputable def Nq : List Str := [Str.ofString "put_row", Str.ofString "take_row", Str.ofString "lift_row", Str.ofString "sink_row", Str.ofString "back_row", Str.ofString "deeds_row", Str.ofString "gates_row", Str.ofString "through_row"]
noncomputable def Me : List Str := [Str.ofString "steepest_row", Str.ofString "flattest_row", Str.ofString "runs_row", Str.ofString "most_row", Str.ofString "passed_row", Str.ofString "ROWS", Str.ofString "row_told", Str.ofString "row_answer"]
noncomputable def Km : List Str := [Str.ofString "Desk", Str.ofString "_law_whole", Str.ofString "_law_numbers", Str.ofString "_law_rows", Str.ofString "_law_shown"]
noncomputable def D0 : List Str := NE ++ Pe ++ PU ++ NN ++ Lz ++ O1 ++ N5 ++ Oy ++ Nq ++ Me ++ Km
noncomputable def addrs : List Addr := [2, 3, 15, 22, 23, 24, 25, 28, 35, 36, 37, 40, 47, 48, 49, 52, 59, 60, 61, 64, 71, 72, 73, 76, 83, 84, 85, 88, 95, 96, 97, 100, 107, 108, 109, 112, 119, 120, 121, 124, 131, 132, 133, 136, 143, 144, 145, 148, 155, 156, 157, 160, 167, 168, 169, 172, 174, 175, 177, 178, 179, 181, 182, 184, 185, 186, 188, 189, 191, 192, 193, 195, 196, 198, 199, 200, 202, 203, 205, 206, 207, 209, 210, 212, 213, 214, 216, 217, 219, 220, 221, 223, 224, 226, 227, 228, 230, 231, 233, 234, 235, 238, 239, 240, 243, 244, 245, 247, 248, 250, 251, 252, 254, 255, 257, 258, 259, 261, 262, 264, 265, 266, 268, 269, 271, 272, 273, 275, 276, 278, 279, 280, 282, 283, 285, 286, 287, 289, 290, 292, 293, 294, 296, 297, 299, 300, 301, 303, 304, 306, 307, 308, 310, 311, 313, 314, 315, 318, 319, 320, 322, 323, 325, 326, 327, 329, 330, 332, 333, 334, 336, 337, 339, 340, 341, 344, 345, 346, 348, 349, 351, 352, 353, 355, 356, 358, 359, 360, 362, 363, 365, 366, 374, 376, 377, 379, 380, 381, 384, 385, 386, 388, 389, 391, 392, 393, 396, 397, 398, 400, 401, 403, 404, 405, 407, 408, 410, 411, 412, 414, 415, 417, 418, 419, 421, 422, 424, 425, 426, 427, 429, 430, 432, 433, 434, 436, 437, 439, 440, 441, 443, 444, 446, 447, 448, 451, 452, 453, 455, 456, 458, 459, 460, 462, 463, 465, 466, 467, 469, 470, 472, 473, 474, 476, 477, 479, 480, 481, 483, 484, 486, 487, 488, 490, 491, 493, 494, 495, 497, 498, 500, 501, 502, 503, 504, 505, 506, 509, 512, 513, 514, 516, 517, 519, 520, 521, 523, 524, 526, 527, 528, 531, 532, 533, 535, 536, 538, 539, 540, 543, 544, 545, 547, 548, 550, 551, 552, 555, 556, 557, 559, 560, 562, 563, 564, 566, 567, 569, 570, 571, 573, 574, 576, 577, 578, 580, 581, 583, 584, 585, 587, 588, 590, 591, 592, 594, 595, 597, 598, 599, 601, 602, 604, 605, 606, 608, 609, 611, 612, 613, 615, 616, 618, 619, 620, 622, 623, 625, 626, 627, 629, 630, 632, 633, 634, 637, 638, 639, 641, 642, 644, 645, 646, 648, 649, 651, 652, 653, 655, 656, 658, 659, 660, 663, 664, 665, 667, 668, 670, 671, 672, 674, 675, 677, 678, 679, 680, 682, 683, 685, 686, 687, 689, 690, 692, 693, 701, 703, 704, 706, 707, 708, 710, 711, 713, 714, 715, 716, 717, 718, 719, 722, 724, 725, 727, 728, 729, 731, 732, 734, 735, 736, 738, 739, 741, 742, 743, 746, 747, 748, 750, 751, 753, 754]
noncomputable def obs0 (K : PySem.W.Frag) : List (Bool) := [Kz K "Beach" ["standing", "past"], Kz K "Desk" ["beach"], DE K "BeachError", DE K "NoGate", DE K "Taken", DE K "UpsideDown", DE K "OutOfBounds", DE K "BeachFull"]
noncomputable def val0 : List (Bool) := [true, true, true, true, true, true, true, true]
noncomputable def obs1 (K : PySem.W.Frag) : List (Bool) := [DE K "DeedsFull", DE K "NothingBack", DE K "BadList", DE K "TooFew", DE K "WrongSize", DE K "BadThrow", DE K "BadRow", KM K ["BadRow", "NoGate", "Taken", "UpsideDown", "OutOfBounds", "BeachFull", "DeedsFull", "NothingBack", "BadList", "TooFew", "WrongSize", "BadThrow"]]
noncomputable def val1 : List (Bool) := [true, true, true, true, true, true, true, true]
noncomputable def obs2 (K : PySem.W.Frag) : List (Bool) := [Mc K "ROWS" E7, DU K "all", DU K "bool", DU K "int", DU K "isinstance", DU K "len", DU K "list", DU K "max"]
noncomputable def val2 : List (Bool) := [true, true, true, true, true, true, true, true]
noncomputable def obs3 (K : PySem.W.Frag) : List (Bool) := [DU K "min", DU K "range", DU K "sorted", DU K "str", DU K "tuple"]
noncomputable def val3 : List (Bool) := [true, true, true, true, true]
noncomputable def obs4 (K : PySem.W.Frag) : List (Seen) := [Bk K "check_gate", DK K "Beach" "__init__" "Beach.__init__", DK K "Beach" "has_gate" "Beach.has_gate", DK K "Beach" "do_deed" "Beach.do_deed", DK K "Beach" "put" "Beach.put", DK K "Beach" "back" "Beach.back", DK K "Beach" "gates" "Beach.gates", Bk K "are_figures"]
noncomputable def val4 : List (Seen) := [Am "check_gate" "check_gate" CJ [], Am "__init__" "Beach.__init__" B8 [], Am "has_gate" "Beach.has_gate" A4 [], Am "do_deed" "Beach.do_deed" BI [], Am "put" "Beach.put" Cc [], Am "back" "Beach.back" CD [1], Am "gates" "Beach.gates" Bq [], Am "are_figures" "are_figures" Bx []]
noncomputable def obs5 (K : PySem.W.Frag) : List (Seen) := [Bk K "read_number", Bk K "check_many", Bk K "read_numbers", Bk K "read_so_many", Bk K "number_words", Bk K "gate_text", Bk K "deeds_text", Bk K "put_row"]
noncomputable def val5 : List (Seen) := [Am "read_number" "read_number" Br [], Am "check_many" "check_many" B6 [], Am "read_numbers" "read_numbers" Bf [], Am "read_so_many" "read_so_many" Bg [], Am "number_words" "number_words" Bc [], Am "gate_text" "gate_text" CV [], Am "deeds_text" "deeds_text" CG [], Am "put_row" "put_row" EB []]
noncomputable def obs6 (K : PySem.W.Frag) : List (Seen) := [Bk K "back_row", Bk K "gates_row", Bk K "row_told", Bk K "row_answer", DK K "Desk" "__init__" "Desk.__init__", DK K "Desk" "answer" "Desk.answer", Bk K "_law_whole", Bk K "_law_numbers"]
noncomputable def val6 : List (Seen) := [Am "back_row" "back_row" DB [], Am "gates_row" "gates_row" CW [], Am "row_told" "row_told" C8 [], Am "row_answer" "row_answer" CF [], Am "__init__" "Desk.__init__" CT [], Am "answer" "Desk.answer" Bv [], Am "_law_whole" "_law_whole" EF [], Am "_law_numbers" "_law_numbers" CS []]
noncomputable def obs7 (K : PySem.W.Frag) : List (Seen) := [Bk K "_law_rows", Bk K "_law_shown", Bk K "law"]
noncomputable def val7 : List (Seen) := [Am "_law_rows" "_law_rows" Em [], Am "_law_shown" "_law_shown" Dr [], Am "law" "law" IW []]
noncomputable def obs8 (K : PySem.W.Frag) : List (Option Int) := [GB K "LEAST", GB K "GREATEST", GB K "MOST_GATES", GB K "MOST_DEEDS", GB K "SMALL_BEACH", GB K "GREAT_NUMBER", GB K "MOST_FIGURES"]
noncomputable def val8 : List (Option Int) := [some (-1000), some (1000), some (40), some (300), some (12), some (999999999), some (9)]
noncomputable def obs9 (K : PySem.W.Frag) : List (Option Str) := [Lf K "FIGURES"]
noncomputable def val9 : List (Option Str) := [some "0123456789"]
noncomputable def G8 (K : PySem.W.Frag) : List (Bool) × List (Bool) × List (Bool) × List (Bool) × List (Seen) × List (Seen) × List (Seen) × List (Seen) × List (Option Int) × List (Option Str) × List Int := (obs0 K, obs1 K, obs2 K, obs3 K, obs4 K, obs5 K, obs6 K, obs7 K, obs8 K, obs9 K, FE K "ROWS")
noncomputable def Ij (w : World) : List (Bool) × List (Bool) × List (Bool) × List (Bool) × List (Seen) × List (Seen) × List (Seen) × List (Seen) × List (Option Int) × List (Option Str) × List Int := (val0, val1, val2, val3, val4, val5, val6, val7, val8, val9, E7.map fun f => PySem.PyData.keyHash w.params f.1)
noncomputable def Jr (w : World) (os : PySem.OsState) := ED PySem.Challenge.pw_throwgate_k36_apart qv D0 (fun _ => ()) 6092 w os
noncomputable def HJ := some (true, PySem.W.openGood qv D0, ())
noncomputable def KL (w : World) (os : PySem.OsState) := Jq PySem.Challenge.pw_throwgate_k36_apart (fun s => G8 (Jk addrs s)) 6092 w os
noncomputable def HB (w : World) := some (Ij w)
theorem JK : Jr = Jr := rfl
theorem Hf : HJ = HJ := rfl
name_quick runAY for TG.Jr by TG.JK
name_quick goodAY for TG.HJ by TG.Hf
theorem runAf (w : World) (os : PySem.OsState) : PySem.W.Fast.runAY (w.withFollow "special-get-raises" false) os = PySem.W.Fast.goodAY := by kernel_rfl
theorem runAt (w : World) (os : PySem.OsState) : PySem.W.Fast.runAY (w.withFollow "special-get-raises" true) os = PySem.W.Fast.goodAY := by kernel_rfl
theorem runA1 (w : World) (os : PySem.OsState) : Jr w os = HJ := PySem.W.byRow2 "special-get-raises" (P := fun w => Jr w os = HJ) (fun w => ((congrFun (congrFun PySem.W.Fast.runAY_eq _) os).trans (runAf w os)).trans PySem.W.Fast.goodAY_eq.symm) (fun w => ((congrFun (congrFun PySem.W.Fast.runAY_eq _) os).trans (runAt w os)).trans PySem.W.Fast.goodAY_eq.symm) w
theorem JO : KL = KL := rfl
theorem HU : HB = HB := rfl
name_quick runBY for TG.KL by TG.JO
name_quick goodBY for TG.HB by TG.HU
theorem runBf (w : World) (os : PySem.OsState) : PySem.W.Fast.runBY (w.withFollow "special-get-raises" false) os = PySem.W.Fast.goodBY (w.withFollow "special-get-raises" false) := by kernel_rfl
theorem runBt (w : World) (os : PySem.OsState) : PySem.W.Fast.runBY (w.withFollow "special-get-raises" true) os = PySem.W.Fast.goodBY (w.withFollow "special-get-raises" true) := by kernel_rfl
theorem runB1 (w : World) (os : PySem.OsState) : KL w os = HB w := PySem.W.byRow2 "special-get-raises" (P := fun w => KL w os = HB w) (fun w => ((congrFun (congrFun PySem.W.Fast.runBY_eq _) os).trans (runBf w os)).trans (congrFun PySem.W.Fast.goodBY_eq _).symm) (fun w => ((congrFun (congrFun PySem.W.Fast.runBY_eq _) os).trans (runBt w os)).trans (congrFun PySem.W.Fast.goodBY_eq _).symm) w
theorem runs (w : World) (os : PySem.OsState) : ED PySem.Challenge.pw_throwgate_k36_apart qv D0 (fun s => G8 (Jk addrs s)) 6092 w os = some (true, PySem.W.openGood qv D0, Ij w) := Hm (runA1 w os) (runB1 w os)
theorem left : PySem.W.LeftO PySem.Challenge.pw_throwgate_k36_apart qv D0 (fun _ => true) (fun s => G8 (Kof addrs s.heap)) (fun w => Ij w) 12244 :=
 Jx (M := 6092) (obs := fun s => G8 (Jk addrs s)) (by kernel_rfl) rfl (fun _ => rfl) rfl (fun s => congrArg G8 (Kv addrs s)) runs
theorem inj1 {α : Type} {a0 b0 : α} (h : [a0] = [b0]) : a0 = b0 := by simp only [List.cons.injEq, and_true] at h; exact h
theorem inj3 {α : Type} {a0 b0 a1 b1 a2 b2 : α} (h : [a0, a1, a2] = [b0, b1, b2]) : a0 = b0 ∧ a1 = b1 ∧ a2 = b2 := by simp only [List.cons.injEq, and_true] at h; exact h
theorem inj5 {α : Type} {a0 b0 a1 b1 a2 b2 a3 b3 a4 b4 : α} (h : [a0, a1, a2, a3, a4] = [b0, b1, b2, b3, b4]) : a0 = b0 ∧ a1 = b1 ∧ a2 = b2 ∧ a3 = b3 ∧ a4 = b4 := by simp only [List.cons.injEq, and_true] at h; exact h
theorem inj7 {α : Type} {a0 b0 a1 b1 a2 b2 a3 b3 a4 b4 a5 b5 a6 b6 : α} (h : [a0, a1, a2, a3, a4, a5, a6] = [b0, b1, b2, b3, b4, b5, b6]) : a0 = b0 ∧ a1 = b1 ∧ a2 = b2 ∧ a3 = b3 ∧ a4 = b4 ∧ a5 = b5 ∧ a6 = b6 := by simp only [List.cons.injEq, and_true] at h; exact h
theorem Io {α : Type} {a0 b0 a1 b1 a2 b2 a3 b3 a4 b4 a5 b5 a6 b6 a7 b7 : α} (h : [a0, a1, a2, a3, a4, a5, a6, a7] = [b0, b1, b2, b3, b4, b5, b6, b7]) : a0 = b0 ∧ a1 = b1 ∧ a2 = b2 ∧ a3 = b3 ∧ a4 = b4 ∧ a5 = b5 ∧ a6 = b6 ∧ a7 = b7 := by simp only [List.cons.injEq, and_true] at h; exact h
set_option genInjectivity false in
structure Tx (w : World) (K : PySem.W.Frag) (mg : Str → Option Value) where
 C_Beach : Addr
 m_Beach : mg "Beach" = some (.ref C_Beach)
 cl_Beach : Cls K C_Beach
 C_Desk : Addr
 m_Desk : mg "Desk" = some (.ref C_Desk)
 cl_Desk : Cls K C_Desk
 n_Beach_standing : B3 K C_Beach "standing"
 n_Beach_past : B3 K C_Beach "past"
 n_Desk_beach : B3 K C_Desk "beach"
 C_BeachError : Addr
 m_BeachError : mg "BeachError" = some (.ref C_BeachError)
 e_BeachError : Bz K C_BeachError
 C_NoGate : Addr
 m_NoGate : mg "NoGate" = some (.ref C_NoGate)
 e_NoGate : Bz K C_NoGate
 C_Taken : Addr
 m_Taken : mg "Taken" = some (.ref C_Taken)
 e_Taken : Bz K C_Taken
 C_UpsideDown : Addr
 m_UpsideDown : mg "UpsideDown" = some (.ref C_UpsideDown)
 e_UpsideDown : Bz K C_UpsideDown
 C_OutOfBounds : Addr
 m_OutOfBounds : mg "OutOfBounds" = some (.ref C_OutOfBounds)
 e_OutOfBounds : Bz K C_OutOfBounds
 C_BeachFull : Addr
 m_BeachFull : mg "BeachFull" = some (.ref C_BeachFull)
 e_BeachFull : Bz K C_BeachFull
 C_DeedsFull : Addr
 m_DeedsFull : mg "DeedsFull" = some (.ref C_DeedsFull)
 e_DeedsFull : Bz K C_DeedsFull
 C_NothingBack : Addr
 m_NothingBack : mg "NothingBack" = some (.ref C_NothingBack)
 e_NothingBack : Bz K C_NothingBack
 C_BadList : Addr
 m_BadList : mg "BadList" = some (.ref C_BadList)
 e_BadList : Bz K C_BadList
 C_TooFew : Addr
 m_TooFew : mg "TooFew" = some (.ref C_TooFew)
 e_TooFew : Bz K C_TooFew
 C_WrongSize : Addr
 m_WrongSize : mg "WrongSize" = some (.ref C_WrongSize)
 e_WrongSize : Bz K C_WrongSize
 C_BadThrow : Addr
 m_BadThrow : mg "BadThrow" = some (.ref C_BadThrow)
 e_BadThrow : Bz K C_BadThrow
 C_BadRow : Addr
 m_BadRow : mg "BadRow" = some (.ref C_BadRow)
 e_BadRow : Bz K C_BadRow
 xs : K8 K [C_BadRow, C_NoGate, C_Taken, C_UpsideDown, C_OutOfBounds, C_BeachFull, C_DeedsFull, C_NothingBack, C_BadList, C_TooFew, C_WrongSize, C_BadThrow]
 f_check_gate : Addr
 fd_check_gate : FuncData
 d_check_gate : D K mg "check_gate" CJ ["gate"] f_check_gate fd_check_gate
 f_Beach_init : Addr
 fd_Beach_init : FuncData
 d_Beach_init : DM K C_Beach "__init__" "Beach.__init__" B8 ["self"] f_Beach_init fd_Beach_init
 f_Beach_has_gate : Addr
 fd_Beach_has_gate : FuncData
 d_Beach_has_gate : DM K C_Beach "has_gate" "Beach.has_gate" A4 ["self", "place"] f_Beach_has_gate fd_Beach_has_gate
 f_Beach_do_deed : Addr
 fd_Beach_do_deed : FuncData
 d_Beach_do_deed : DM K C_Beach "do_deed" "Beach.do_deed" BI ["self", "place", "instead"] f_Beach_do_deed fd_Beach_do_deed
 f_Beach_put : Addr
 fd_Beach_put : FuncData
 d_Beach_put : DM K C_Beach "put" "Beach.put" Cc ["self", "place", "foot", "head"] f_Beach_put fd_Beach_put
 f_Beach_back : Addr
 fd_Beach_back : FuncData
 d_Beach_back : DMD K C_Beach "back" "Beach.back" CD ["self", "many"] f_Beach_back fd_Beach_back [.int 1]
 f_Beach_gates : Addr
 fd_Beach_gates : FuncData
 d_Beach_gates : DM K C_Beach "gates" "Beach.gates" Bq ["self"] f_Beach_gates fd_Beach_gates
 f_are_figures : Addr
 fd_are_figures : FuncData
 d_are_figures : D K mg "are_figures" Bx ["text"] f_are_figures fd_are_figures
 f_read_number : Addr
 fd_read_number : FuncData
 d_read_number : D K mg "read_number" Br ["text"] f_read_number fd_read_number
 f_check_many : Addr
 fd_check_many : FuncData
 d_check_many : D K mg "check_many" B6 ["words", "many"] f_check_many fd_check_many
 f_read_numbers : Addr
 fd_read_numbers : FuncData
 d_read_numbers : D K mg "read_numbers" Bf ["words"] f_read_numbers fd_read_numbers
 f_read_so_many : Addr
 fd_read_so_many : FuncData
 d_read_so_many : D K mg "read_so_many" Bg ["words", "many"] f_read_so_many fd_read_so_many
 f_number_words : Addr
 fd_number_words : FuncData
 d_number_words : D K mg "number_words" Bc ["numbers"] f_number_words fd_number_words
 f_gate_text : Addr
 fd_gate_text : FuncData
 d_gate_text : D K mg "gate_text" CV ["gate"] f_gate_text fd_gate_text
 f_deeds_text : Addr
 fd_deeds_text : FuncData
 d_deeds_text : D K mg "deeds_text" CG ["many"] f_deeds_text fd_deeds_text
 f_put_row : Addr
 fd_put_row : FuncData
 d_put_row : D K mg "put_row" EB ["beach", "words"] f_put_row fd_put_row
 f_back_row : Addr
 fd_back_row : FuncData
 d_back_row : D K mg "back_row" DB ["beach", "words"] f_back_row fd_back_row
 f_gates_row : Addr
 fd_gates_row : FuncData
 d_gates_row : D K mg "gates_row" CW ["beach", "words"] f_gates_row fd_gates_row
 f_row_told : Addr
 fd_row_told : FuncData
 d_row_told : D K mg "row_told" C8 ["beach", "row"] f_row_told fd_row_told
 f_row_answer : Addr
 fd_row_answer : FuncData
 d_row_answer : D K mg "row_answer" CF ["beach", "row"] f_row_answer fd_row_answer
 f_Desk_init : Addr
 fd_Desk_init : FuncData
 d_Desk_init : DM K C_Desk "__init__" "Desk.__init__" CT ["self"] f_Desk_init fd_Desk_init
 f_Desk_answer : Addr
 fd_Desk_answer : FuncData
 d_Desk_answer : DM K C_Desk "answer" "Desk.answer" Bv ["self", "row"] f_Desk_answer fd_Desk_answer
 f_w_whole : Addr
 fd_w_whole : FuncData
 d_w_whole : D K mg "_law_whole" EF ["_law_found"] f_w_whole fd_w_whole
 f_w_numbers : Addr
 fd_w_numbers : FuncData
 d_w_numbers : D K mg "_law_numbers" CS ["_law_found", "_law_due"] f_w_numbers fd_w_numbers
 f_w_rows : Addr
 fd_w_rows : FuncData
 d_w_rows : D K mg "_law_rows" Em ["_law_found", "_law_due"] f_w_rows fd_w_rows
 f_w_shown : Addr
 fd_w_shown : FuncData
 d_w_shown : D K mg "_law_shown" Dr ["_law_row"] f_w_shown fd_w_shown
 f_law : Addr
 fd_law : FuncData
 d_law : D K mg "law" IW ["_law_script"] f_law fd_law
 mk_Beach : Mk K C_Beach f_Beach_init
 mk_Desk : Mk K C_Desk f_Desk_init
 u_LEAST : Value
 k_LEAST : mg "LEAST" = some u_LEAST
 r_LEAST : RelV (.int (-1000)) u_LEAST
 u_GREATEST : Value
 k_GREATEST : mg "GREATEST" = some u_GREATEST
 r_GREATEST : RelV (.int (1000)) u_GREATEST
 u_MOST_GATES : Value
 k_MOST_GATES : mg "MOST_GATES" = some u_MOST_GATES
 r_MOST_GATES : RelV (.int (40)) u_MOST_GATES
 u_MOST_DEEDS : Value
 k_MOST_DEEDS : mg "MOST_DEEDS" = some u_MOST_DEEDS
 r_MOST_DEEDS : RelV (.int (300)) u_MOST_DEEDS
 u_SMALL_BEACH : Value
 k_SMALL_BEACH : mg "SMALL_BEACH" = some u_SMALL_BEACH
 r_SMALL_BEACH : RelV (.int (12)) u_SMALL_BEACH
 u_GREAT_NUMBER : Value
 k_GREAT_NUMBER : mg "GREAT_NUMBER" = some u_GREAT_NUMBER
 r_GREAT_NUMBER : RelV (.int (999999999)) u_GREAT_NUMBER
 u_FIGURES : Value
 k_FIGURES : mg "FIGURES" = some u_FIGURES
 r_FIGURES : RelV (.str "0123456789") u_FIGURES
 u_MOST_FIGURES : Value
 k_MOST_FIGURES : mg "MOST_FIGURES" = some u_MOST_FIGURES
 r_MOST_FIGURES : RelV (.int (9)) u_MOST_FIGURES
 A_ROWS : Addr
 m_ROWS : mg "ROWS" = some (.ref A_ROWS)
 rows : HQ w.params K mg A_ROWS E7
 z_all : mg "all" = none
 z_bool : mg "bool" = none
 z_int : mg "int" = none
 z_isinstance : mg "isinstance" = none
 z_len : mg "len" = none
 z_list : mg "list" = none
 z_max : mg "max" = none
 z_min : mg "min" = none
 z_range : mg "range" = none
 z_sorted : mg "sorted" = none
 z_str : mg "str" = none
 z_tuple : mg "tuple" = none
noncomputable def Tx.err {w : World} {K : PySem.W.Frag} {mg : Str → Option Value} (T : Tx w K mg) : Err → Value
 | .nogate => .ref T.C_NoGate
 | .taken => .ref T.C_Taken
 | .upside => .ref T.C_UpsideDown
 | .bounds => .ref T.C_OutOfBounds
 | .full => .ref T.C_BeachFull
 | .deeds => .ref T.C_DeedsFull
 | .nothing => .ref T.C_NothingBack
 | .badlist => .ref T.C_BadList
 | .few => .ref T.C_TooFew
 | .size => .ref T.C_WrongSize
 | .badthrow => .ref T.C_BadThrow
 | .badrow => .ref T.C_BadRow
section
variable {P : Program} {w : World} {K : PySem.W.Frag} {mg : Str → Option Value} {base : Heap}
theorem Cq : AM ["gate", "number"] ["gate"] (AE CJ) := by walk_at "SC"
noncomputable def Fb {w : World} {K : PySem.W.Frag} {mg : Str → Option Value} (T : Tx w K mg) : Sp := fun vs H Q E => ∃ (q : Addr) (p f h : Int), vs = [.ref q] ∧ H q = some (.tup [.int p, .int f, .int h]) ∧ (∀ e, Ft p f h = some e → E (T.err e) none H) ∧ (Ft p f h = none → Q .non H)
theorem FQ (T : Tx w K mg) : Ad P w K mg base (CXE P w) 1 T.f_check_gate T.fd_check_gate ["gate"] (Fb T) := by
 refine T.d_check_gate.F.okX Cq (fun _ _ _ _ h => by walk_at "LN") ?_
 ·walk_at "I2"
  obtain ⟨q, p, f, h, rfl, hq, kE, k⟩ := h
  refine ⟨_, (AG (Au (ptc ID (pxi BJ (pv 0) AK) (pxi BJ (pv 0) AK)) (AD (Ax C5 rfl T.e_UpsideDown (by rfl) T.m_UpsideDown (AA AN AC)))
    AX)
   (AD (Ex ownE rfl (Jp (pv 0)) (pgn 1 Cq)
    (AD (Au (Eh (ptc IT (pv 1) (Cg (v := .int (-1000)) (by rfl) T.k_LEAST T.r_LEAST)) (DD (ptc ID (pv 1) (Cg (v := .int (1000)) (by rfl) T.k_GREATEST T.r_GREATEST)))).pt (AD (Ax C5 rfl T.e_OutOfBounds (by rfl) T.m_OutOfBounds (AA AN AC)))
      AX))))), ?_⟩
  walk_at "RD"
  walk_at "AUTO"
  unfold Ft at kE k
  by_cases hf : h < f
  ·rw [if_pos (decide_eq_true hf)]
   rw [if_pos hf] at kE
   exact ⟨by decide, kE _ rfl⟩
  rw [if_neg (fun z => hf (of_decide_eq_true z))]
  rw [if_neg hf] at kE k
  refine ⟨_, rfl, q, rfl, ⟨_, SqT.of hq⟩, Kx (xs := [V.int p, V.int f, V.int h]) (fun i σ H' => ∃ o, σ = [some (.ref q), o] ∧ H' = H ∧ ∀ x ∈ [p, f, h].take i, InB x) ⟨none, rfl, rfl, fun _ z => absurd z (by simp)⟩ (fun _ _ _ _ ⟨_, _, e, _⟩ => SqT.of (e ▸ hq)) ?_ ?_⟩
  ·rintro i v σ H1 hx ⟨o, rfl, rfl, hi⟩
   have hil : i < [p, f, h].length := (List.getElem?_eq_some_iff.mp hx).1
   have ev : v = V.int [p, f, h][i] := by
    have hx : ([p, f, h].map V.int)[i]? = some v := hx
    rw [List.getElem?_map, List.getElem?_eq_getElem hil] at hx
    exact (Option.some.inj hx).symm
   subst ev
   have hmem := List.getElem_mem hil
   have htk : [p, f, h].take (i + 1) = [p, f, h].take i ++ [[p, f, h][i]] := List.take_succ_eq_append_getElem hil
   generalize [p, f, h][i] = x at *
   walk_at "RD"
   by_cases h1 : x < -1000
   ·rw [if_pos (decide_eq_true h1)]
    rw [if_neg (fun z => by simp at hmem; rcases hmem with rfl | rfl | rfl <;> lia)] at kE
    exact ⟨by decide, kE _ rfl⟩
   rw [if_neg (fun z => h1 (of_decide_eq_true z))]
   by_cases h2 : 1000 < x
   ·rw [if_pos (decide_eq_true h2)]
    rw [if_neg (fun z => by simp at hmem; rcases hmem with rfl | rfl | rfl <;> lia)] at kE
    exact ⟨by decide, kE _ rfl⟩
   rw [if_neg (fun z => h2 (of_decide_eq_true z))]
   refine ⟨⟨_, rfl⟩, fun y hy => ?_⟩
   rw [htk] at hy
   rcases List.mem_append.mp hy with z | z
   ·exact hi y z
   ·rw [List.mem_singleton.mp z]
    exact ⟨by lia, by lia⟩
  ·rintro σ H1 ⟨o, rfl, rfl, hi⟩
   exact k (if_pos ⟨hi p (by simp), hi f (by simp), hi h (by simp)⟩)
theorem FX : AM ["self"] ["self"] (AE B8) := by walk_at "SC"
noncomputable def C2 {w : World} {K : PySem.W.Frag} {mg : Str → Option Value} (T : Tx w K mg) : Sp := fun vs H Q _ => ∃ (b dx : Addr), vs = [.ref b] ∧ H b = some (.ins T.C_Beach dx []) ∧ ∀ H' S P, H S = none → H P = none → (∀ a u, a ≠ b → H a = some u → H' a = some u) → Bch T.C_Beach H' b S P [S, P] [] [] → Q .non H'
theorem FD {w : World} {K : PySem.W.Frag} {mg : Str → Option Value} {T : Tx w K mg} {H : Hp} {Q : Addr → Hp → Prop} {E : XK} (k : ∀ b S P H', H b = none → H S = none → H P = none → AH H H' → Bch T.C_Beach H' b S P [S, P] [] [] → Q b H') :
  ∀ x dx, H x = none → H dx = none → dx ≠ x → C2 T [V.ref x] (upd (upd H dx (.own x)) x (.ins T.C_Beach dx [])) (fun v H2 => v = V.non ∧ Q x H2) E := fun x dx nx nd hd => by
 refine ⟨x, dx, rfl, AI, fun H' S P nS nP kp hb => ⟨rfl, k x S P H' nx ?_ ?_ (fun a u e => kp a u (AB e nx) ?_) hb⟩⟩
 ·have h1 : S ≠ x := fun z => by rw [z, AI] at nS; cases nS
  have h2 : S ≠ dx := fun z => by rw [AF h1, z, AI] at nS; cases nS
  rwa [AF h1, AF h2] at nS
 ·have h1 : P ≠ x := fun z => by rw [z, AI] at nP; cases nP
  have h2 : P ≠ dx := fun z => by rw [AF h1, z, AI] at nP; cases nP
  rwa [AF h1, AF h2] at nP
 ·rw [AF (AB e nx), AF (AB e nd)]
  exact e
theorem By (T : Tx w K mg) : Ad P w K mg base CX0 1 T.f_Beach_init T.fd_Beach_init ["self"] (C2 T) := by
 refine T.d_Beach_init.F.ok FX (fun _ _ _ _ h => by walk_at "LN") ?_
 ·walk_at "I2"
  obtain ⟨b, dx, rfl, hb, k⟩ := h
  refine ⟨_, (AG (EC (pv 0) (Ar AC) rfl)
   (AD (EC (pv 0) (Ar AC) rfl))), ?_⟩
  walk_at "RD"
  refine ⟨by decide, fun S H1 nS s1 eS => ⟨_, dx, _, s1.get hb, T.cl_Beach, T.n_Beach_standing, by decide, by decide, fun P H2 nP s2 eP => ?_⟩⟩
  have sb : S ≠ b := AB hb nS |>.symm
  refine ⟨_, dx, _, s2.get AI, T.cl_Beach, T.n_Beach_past, (by show 1 < 1000; decide), ?_⟩
  have nP1 : H1 P = none := by
   have hPb : P ≠ b := fun z => by rw [z, AI] at nP; cases nP
   rw [AF hPb] at nP
   exact nP
  have eS2 : H2 S = some (.lst []) := s2.get ((AF sb).trans eS)
  have pb : P ≠ b := (AB (s1.get hb) nP1).symm
  have ps : P ≠ S := (AB eS nP1).symm
  refine k _ S P nS (s1.free nP1) (fun a u ha e => ?_) ?_
  ·rw [AF ha]
   exact s2.get ((AF ha).trans (s1.get e))
  ·refine ⟨⟨dx, AI⟩, ⟨[], (AF sb).trans eS2, .nil⟩, ⟨[], (AF pb).trans eP, .nil, fun _ h => absurd h (by simp)⟩, ps.symm, by simp, by simp, ⟨List.Pairwise.nil, fun _ h => absurd h (by simp), by decide⟩, fun _ h => absurd h (by simp), by decide, fun a ha => ?_⟩
   simp at ha
   rcases ha with rfl | rfl
   ·exact ⟨_, (AF sb).trans eS2⟩
   ·exact ⟨_, (AF pb).trans eP⟩
theorem Db : AM ["self", "place"] ["self", "place"] (AE A4) := by walk_at "SC"
noncomputable def Dh {w : World} {K : PySem.W.Frag} {mg : Str → Option Value} (T : Tx w K mg) : Sp := fun vs H Q E => ∃ (b S P : Addr) (ow : List Addr) (gs : List G) (past : List (List G)) (p : Int), vs = [.ref b, .int p] ∧ Bch T.C_Beach H b S P ow gs past ∧ ∀ H', AH H H' → Q (.bl (decide (p ∈ Ez gs))) H'
theorem DZ (T : Tx w K mg) : Ad P w K mg base CX0 1 T.f_Beach_has_gate T.fd_Beach_has_gate ["self", "place"] (Dh T) := by
 refine T.d_Beach_has_gate.F.ok Db (fun _ _ _ _ h => by walk_at "LN") ?_
 ·walk_at "I2"
  obtain ⟨b, S, P, ow, gs, past, p, rfl, hb, k⟩ := h
  refine ⟨_, (AD (AL (IE JA (pv 1) (Da rfl (⟨rfl, by decide +kernel, by decide +kernel, by decide +kernel, rfl, by decide +kernel, by with_unfolding_all rfl, by rfl, by rfl, by rfl⟩ : Ab _ _ "gate" [] []) (Cj (BH (pv 0) rfl)) (fun _ _ _ _  => (pxi (DS (K := K) rfl) (pv 0) AK)) (fun _ _ _ _ => Ch)) (by with_unfolding_all rfl)))), ?_⟩
  obtain ⟨dx, eb⟩ := hb.at_
  obtain ⟨as, es, ga⟩ := hb.st
  delta EH
  refine ⟨_, dx, _, eb, T.cl_Beach, T.n_Beach_standing, _, rfl, ?_⟩
  refine ⟨_, rfl, ⟨_, SqL.of es⟩, fun D nD => ?_⟩
  refine EX (fun _ => true) (fun g => V.int g.p) (SqL.of es) ga nD (by have := hb.std.len; lia) (fun v g H R hg s1 ev hR => ?_) (fun v g H R hg s1 ev hR => ?_) fun H1 s1 e1 => ?_
  ·exact hR
  ·delta Option.join_some
   exact ⟨_, SqT.of ev, _, rfl, hR⟩
  ·rw [Jv, show (gs.map fun g => V.int g.p) = (Ez gs).map V.int from by rw [List.map_map]; rfl] at e1
   refine ⟨_, .inl (SqL.of e1), rfl, J1 _, ?_⟩
   rw [IN]
   exact k _ s1
theorem B2 : AM ["self", "place", "instead", "others"] ["self", "place", "instead"] (AE BI) := by walk_at "SC"
noncomputable def D7 {w : World} {K : PySem.W.Frag} {mg : Str → Option Value} (T : Tx w K mg) : Sp := fun vs H Q E => ∃ (b S P : Addr) (ow : List Addr) (gs : List G) (past : List (List G)) (p : Int) (l : Addr) (ls : List Addr) (o : List G), vs = [.ref b, .int p, .ref l] ∧ Bch T.C_Beach H b S P ow gs past ∧ l ∉ ow ∧ H l = some (.lst (ls.map V.ref)) ∧ Aa H ls o ∧ (∀ g ∈ o, g.p = p) ∧ Std (Co gs p o) ∧ (300 ≤ past.length → E (T.err .deeds) none H) ∧ (past.length < 300 → ∀ H' S' ow' (D : Addr), Kp b P H H' → Bch T.C_Beach H' b S' P ow' (Co gs p o) (past ++ [gs]) → (∀ a ∈ ow', a ∈ ow ∨ H a = none) → Q .non H')
theorem D6 (T : Tx w K mg) : Ad P w K mg base (CXE P w) 1 T.f_Beach_do_deed T.fd_Beach_do_deed ["self", "place", "instead"] (D7 T) := by
 refine T.d_Beach_do_deed.F.okX B2 (fun _ _ _ _ h => by walk_at "LN") ?_
 ·walk_at "I2"
  obtain ⟨b, S, P, ow, gs, past, p, l, ls, o, rfl, hb, hlo, el, go, hop, std, kE, k⟩ := h
  refine ⟨_, (AG (Au (ptc LY (AO AR (by rfl) T.z_len Av (AA (BH (pv 0) rfl) AC)) (Cg (v := .int (300)) (by rfl) T.k_MOST_DEEDS T.r_MOST_DEEDS)) (AD (Ax C5 rfl T.e_DeedsFull (by rfl) T.m_DeedsFull (AA AN AC)))
    AX)
   (AG (Hc (i := 3) rfl B2.nd rfl (Or.inl rfl) (⟨rfl, by decide +kernel, by decide +kernel, by decide +kernel, rfl, by decide +kernel, by with_unfolding_all rfl, by rfl, by rfl, by rfl⟩ : Ab _ _ "gate" ["place"] [1]) (Cj (BH (pv 0) rfl)) (fun _ _ _ _  => (pv 0)) (fun _ _ _ _ => (LF (ptc Fq (pxi (DS (K := K) rfl) (pv 0) AK) (pv 1)))))
   (AG (A2 (Fm (BH (pv 0) rfl) (BH (pv 0) rfl)))
   (AD (EC (pv 0) (AO GC (by rfl) T.z_sorted Ip (AA (Aj Ee (pv 3) (pv 2)) AC)) rfl))))), ?_⟩
  obtain ⟨dx, eb⟩ := hb.at_
  obtain ⟨as, es, ga⟩ := hb.st
  obtain ⟨ps, ep, pr, hps⟩ := hb.pa
  have lp := Paired.length pr
  walk_at "Q"
  walk_at "RD"
  refine ⟨_, dx, _, eb, T.cl_Beach, T.n_Beach_past, _, rfl, ?_⟩
  refine ⟨_, rfl, _, .inl (SqL.of ep), ?_⟩
  rw [List.length_map, lp]
  by_cases h3 : 300 ≤ past.length
  ·rw [if_pos (decide_eq_true (by lia))]
   exact ⟨by decide, kE h3⟩
  ·rw [if_neg (fun z => h3 (by have := of_decide_eq_true z; lia))]
   walk_at "NX"
   walk_at "Q"
   delta EH
   refine ⟨_, dx, _, eb, T.cl_Beach, T.n_Beach_standing, _, rfl, _, rfl, ⟨_, SqL.of es⟩, fun D nD => ?_⟩
   refine HF (fun g => !decide (g.p = p)) (SqL.of es) ga nD (by have := hb.std.len; lia) (fun v g H1 R hg s1 ev hR => ?_) fun H1 as1 s1 e1 ga1 => ?_
   ·delta Option.join_some
    refine ⟨_, SqT.of ev, _, rfl, rfl, ?_⟩
    rw [show decide (V.int g.p = V.int p) = decide (g.p = p) from decide_eq_decide.mpr ⟨fun z => V.int.inj z, fun z => by rw [z]⟩]
    exact hR
   ·have eb1 := s1.get eb
    have ep1 := s1.get ep
    walk_at "NX"
    walk_at "Q"
    walk_at "RD"
    refine ⟨_, dx, _, eb1, T.cl_Beach, T.n_Beach_past, _, rfl, _, rfl, ⟨_, ep1⟩, _, dx, _, eb1, T.cl_Beach, T.n_Beach_standing, _, rfl, _, ep1, by rw [List.length_map, lp, PySem.sizeLine_eq]; lia, ?_⟩
    walk_at "NX"
    walk_at "RD"
    have bP : b ≠ P := Fn eb ep (by simp)
    have lP : l ≠ P := fun z => hlo (by rw [z]; exact hb.po)
    have DP : D ≠ P := (AB ep nD).symm
    have el1 : upd H1 P (.lst (ps.map V.ref ++ [V.ref S])) l = some (.lst (ls.map V.ref)) := (AF lP).trans (s1.get el)
    have e1' : upd H1 P (.lst (ps.map V.ref ++ [V.ref S])) D = some (.lst (as1.map V.ref)) := (AF DP).trans e1
    have lo := Aa.len go
    have l1 := Aa.len ga1
    have lf := List.length_filter_le (fun g : G => !decide (g.p = p)) gs
    have l40 := hb.std.len
    have lpo := G1 (gs := gs) (p := p) (o := o)
    have l40' := std.len
    refine ⟨_, e1', _, el1, by rw [List.length_map, List.length_map, PySem.sizeLine_eq]; lia, fun M H2 n2 s2 e2 => ?_⟩
    have kt : ∀ a xs, H a = some (.tup xs) → H2 a = some (.tup xs) := fun a xs e => s2.get ((AF (hb.nep e fun _ z => by cases z)).trans (s1.get e))
    have kt1 : ∀ a xs, H1 a = some (.tup xs) → H2 a = some (.tup xs) := fun a xs e => s2.get ((AF (Fn e ep1 (fun z => by cases z))).trans e)
    have ga2 : Aa H2 (as1 ++ ls) ((gs.filter fun g => !decide (g.p = p)) ++ o) := Aa.append (ga1.keep kt1) (go.keep kt)
    refine ⟨as1 ++ ls, by rw [List.map_append]; exact SqL.of e2, _, ga2, ?_, by rw [List.length_append]; lia, fun S' H3 as3 gs3 n3 s3 e3 ga3 pm ac => ?_⟩
    ·exact ((EA (gs := gs) (p := p) (o := o)).map G.p).nodup_iff.mp std.nd
    have eg : gs3 = Co gs p o := EJ ac std.asc (pm.trans EA.symm)
    subst eg
    have eP3 : H3 P = some (.lst ((ps ++ [S]).map V.ref)) := by rw [List.map_append]; exact s3.get (s2.get AI)
    have eb3 : H3 b = some (.ins T.C_Beach dx [("standing", .ref S), ("past", .ref P)]) := s3.get (s2.get ((AF bP).trans eb1))
    have kp3 : Kp b P H H3 := fun a u h1 h2 e => s3.get (s2.get ((AF h2).trans (s1.get e)))
    have fr : ∀ a, H3 a = none → H a = none := fun a e => by
     cases q : H a with
     | none => rfl
     | some u =>
      by_cases hb' : a = b
      ·rw [hb', eb3] at e; cases e
      ·by_cases hP : a = P
       ·rw [hP, eP3] at e; cases e
       ·rw [kp3 a u hb' hP q] at e; cases e
    have n3H : H S' = none := by
     cases q : H S' with
     | none => rfl
     | some u =>
      by_cases hb' : S' = b
      ·rw [hb', s2.get ((AF bP).trans eb1)] at n3; cases n3
      ·by_cases hP : S' = P
       ·rw [hP, s2.get AI] at n3; cases n3
       ·rw [s2.get ((AF hP).trans (s1.get q))] at n3; cases n3
    have Sb : S' ≠ b := (AB eb n3H).symm
    have SP' : S' ≠ P := (AB ep n3H).symm
    have kt3 : ∀ a xs, H a = some (.tup xs) → H3 a = some (.tup xs) := fun a xs e => s3.get (kt a xs e)
    have kb : ∀ a xs, H3 a = some (.tup xs) → upd H3 b (.ins T.C_Beach dx [("standing", .ref S'), ("past", .ref P)]) a = some (.tup xs) := fun a xs e => (AF (Fn e eb3 (fun z => by cases z))).trans e
    refine ⟨_, dx, _, eb3, T.cl_Beach, T.n_Beach_standing, by show 2 < 1000; decide, k (by lia) _ S' (S' :: S :: ow) S' (kp3.upd (.inl rfl)) ?_ fun a ha => ?_⟩
    ·refine ⟨⟨dx, AI⟩, ⟨as3, (AF Sb).trans e3, ga3.keep kb⟩, ⟨ps ++ [S], (AF bP.symm).trans eP3, Paired.snoc (Paired.keepM pr fun x y hx q => ?_) ?_, fun a ha => ?_⟩, SP', by simp, by simp [hb.po], std, fun x hx => ?_, by rw [List.length_append]; simp only [List.length_singleton]; lia, fun a ha => ?_⟩
     ·have hxo := hps x hx
      obtain ⟨_, ex⟩ := hb.lv x hxo.1
      have hxb : x ≠ b := hb.neb ex fun _ _ _ z => by cases z
      exact q.keep (fun u e => (AF hxb).trans (kp3 x u hxb hxo.2 e)) fun a xs e => kb a xs (kt3 a xs e)
     ·have hSb : S ≠ b := hb.neb es fun _ _ _ z => by cases z
      exact hb.st.keep (fun u e => (AF hSb).trans (kp3 S u hSb hb.sp e)) fun a xs e => kb a xs (kt3 a xs e)
     ·rcases List.mem_append.mp ha with z | z
      ·exact ⟨by simp [(hps a z).1], (hps a z).2⟩
      ·rw [List.mem_singleton.mp z]; exact ⟨by simp, hb.sp⟩
     ·rcases List.mem_append.mp hx with z | z
      ·exact hb.stds x z
      ·rw [List.mem_singleton.mp z]; exact hb.std
     ·have hown : ∀ a ∈ ow, ∃ xs, upd H3 b (.ins T.C_Beach dx [("standing", .ref S'), ("past", .ref P)]) a = some (.lst xs) := fun a ha => by
       obtain ⟨xs, ex⟩ := hb.lv a ha
       have hxb : a ≠ b := hb.neb ex fun _ _ _ z => by cases z
       by_cases hP : a = P
       ·rw [hP]; exact ⟨_, (AF bP.symm).trans eP3⟩
       ·exact ⟨xs, (AF hxb).trans (kp3 a _ hxb hP ex)⟩
      rcases List.mem_cons.mp ha with z | z
      ·rw [z]; exact ⟨_, (AF Sb).trans e3⟩
      ·rcases List.mem_cons.mp z with z | z
       ·rw [z]; exact hown S hb.so
       ·exact hown a z
    ·rcases List.mem_cons.mp ha with z | z
     ·rw [z]; exact .inr n3H
     ·rcases List.mem_cons.mp z with z | z
      ·rw [z]; exact .inl hb.so
      ·exact .inl z
theorem DX : AM ["self", "place", "foot", "head", "gate"] ["self", "place", "foot", "head"] (AE Cc) := by walk_at "SC"
noncomputable def GS {w : World} {K : PySem.W.Frag} {mg : Str → Option Value} (T : Tx w K mg) : Sp := fun vs H Q E => ∃ (b S P : Addr) (ow : List Addr) (gs : List G) (past : List (List G)) (p f h : Int), vs = [.ref b, .int p, .int f, .int h] ∧ Bch T.C_Beach H b S P ow gs past ∧ (∀ e, Es gs past p f h = some e → ∀ H', AH H H' → E (T.err e) none H') ∧ (Es gs past p f h = none → ∀ H' S' ow' (D : Addr), Kp b P H H' → Bch T.C_Beach H' b S' P ow' (Co gs p [⟨p, f, h⟩]) (past ++ [gs]) → (∀ a ∈ ow', a ∈ ow ∨ H a = none) → H' D = some (.tup [.int p, .int f, .int h]) → Q (.ref D) H')
theorem Df (T : Tx w K mg) : Ad P w K mg base (CXE P w) 2 T.f_Beach_put T.fd_Beach_put ["self", "place", "foot", "head"] (GS T) := by
 refine T.d_Beach_put.F.okX DX (fun _ _ _ _ h => by walk_at "LN") ?_
 ·walk_at "I2"
  obtain ⟨b, S, P, ow, gs, past, p, f, h', rfl, hb, kE, k⟩ := h
  refine ⟨_, (AG (Au (Bt (Bm (pv 0) T.cl_Beach T.d_Beach_has_gate.mt (DZ T) (hr.mono (by decide)) T.d_Beach_has_gate.b .nil At (AA (pv 1) AC))) (AD (Ax C5 rfl T.e_Taken (by rfl) T.m_Taken (AA AN AC)))
    AX)
   (AG (pst 4 DX (IU (AA (pv 1) (AA (pv 2) (AA (pv 3) AC)))))
   (AG (A2 (pcl T.d_check_gate (FQ T) hr Ca (AA (pv 4) AC)))
   (AG (Au (ptc LY (AO AR (by rfl) T.z_len Av (AA (BH (pv 0) rfl) AC)) (Cg (v := .int (40)) (by rfl) T.k_MOST_GATES T.r_MOST_GATES)) (AD (Ax C5 rfl T.e_BeachFull (by rfl) T.m_BeachFull (AA AN AC)))
    AX)
   (AG (A2 (Bm (pv 0) T.cl_Beach T.d_Beach_do_deed.mt (D6 T) (hr.mono (by decide)) T.d_Beach_do_deed.b .nil Ca (AA (pv 1) (AA (Ar (AA (pv 4) AC)) AC))))
   (AD (AL (pv 4)))))))), ?_⟩
  obtain ⟨dx, eb⟩ := hb.at_
  obtain ⟨as, es, ga⟩ := hb.st
  have las := ga.len
  walk_at "Q"
  walk_at "RD"
  refine ⟨_, _, eb, rfl, b, S, P, ow, gs, past, p, rfl, hb, fun H1 s1 => ?_⟩
  have hb1 := hb.same s1
  by_cases hp : p ∈ Ez gs
  ·refine ⟨_, rfl, ?_⟩
   rw [if_pos (decide_eq_true hp)]
   exact ⟨by decide, kE .taken (by unfold Es; rw [if_pos hp]) _ s1⟩
  refine ⟨_, rfl, ?_⟩
  rw [if_neg (fun z => hp (of_decide_eq_true z))]
  walk_at "NX"
  walk_at "Q"
  walk_at "RD"
  refine ⟨by decide, fun q H2 n2 s2 e2 => ?_⟩
  walk_at "NX"
  walk_at "Q"
  walk_at "RD"
  refine ⟨q, p, f, h', rfl, e2, fun e he => kE e (by unfold Es; rw [if_neg hp, he]; rfl) _ (s1.trans s2), fun hok => ?_⟩
  have hb2 := hb1.same s2
  obtain ⟨dx, eb⟩ := hb2.at_
  obtain ⟨as, es, ga⟩ := hb2.st
  have las := ga.len
  walk_at "NX"
  walk_at "Q"
  walk_at "RD"
  refine ⟨_, dx, _, eb, T.cl_Beach, T.n_Beach_standing, _, rfl, _, rfl, _, .inl (SqL.of es), ?_⟩
  rw [List.length_map, las]
  by_cases h4 : 40 ≤ gs.length
  ·rw [if_pos (decide_eq_true (by lia))]
   exact ⟨by decide, kE .full (by unfold Es; rw [if_neg hp, hok, if_pos h4]; rfl) _ (s1.trans s2)⟩
  rw [if_neg (fun z => h4 (by have := of_decide_eq_true z; lia))]
  walk_at "NX"
  walk_at "RD"
  refine ⟨dx, _, eb, rfl, by decide, fun l H3 n3 s3 e3 => ?_⟩
  have hb3 := hb2.same s3
  have ok := E4.mp hok
  refine ⟨b, S, P, ow, gs, past, p, l, [q], [⟨p, f, h'⟩], rfl, hb3, fun z => ?_, e3, .cons (s3.get e2) .nil, fun g hg => by rw [List.mem_singleton.mp hg], hb.std.put ok (by rw [Jf hp]; lia), fun h3 => kE .deeds (by unfold Es; rw [if_neg hp, hok, if_neg h4, if_pos h3]; rfl) _ (s1.trans (s2.trans s3)), fun h3 H4 S' ow' _ k4 b4 o4 => ?_⟩
  ·exact hb2.off n3 z
  ·refine k (by unfold Es; rw [if_neg hp, hok, if_neg h4, if_neg (by lia)]; rfl) H4 S' ow' q ((Kp.of (s1.trans (s2.trans s3))).trans k4) b4 (fun a ha => ?_) (hb3.tup k4 (s3.get e2))
   exact (o4 a ha).imp id fun z => (s1.trans (s2.trans s3)).free z
theorem C3 : AM ["self", "many", "left"] ["self", "many"] (AE CD) := by walk_at "SC"
noncomputable def FY {w : World} {K : PySem.W.Frag} {mg : Str → Option Value} (T : Tx w K mg) : Sp := fun vs H Q E => ∃ (b S P : Addr) (ow : List Addr) (gs : List G) (past : List (List G)) (n : Int), vs = [.ref b, .int n] ∧ Bch T.C_Beach H b S P ow gs past ∧ (∀ e, Ek past n = some e → E (T.err e) none H) ∧ (Ek past n = none → ∀ H' S' P' ow', Kp b b H H' → Bch T.C_Beach H' b S' P' ow' (past.getD (past.length - n.toNat) []) (past.take (past.length - n.toNat)) → (∀ a ∈ ow', a ∈ ow ∨ H a = none) → Q (.int ((past.take (past.length - n.toNat)).length : Int)) H')
theorem Bs (T : Tx w K mg) : Ad P w K mg base (CXE P w) 1 T.f_Beach_back T.fd_Beach_back ["self", "many"] (FY T) := by
 refine T.d_Beach_back.F.okX C3 (fun _ _ _ _ h => by walk_at "LN") ?_
 ·walk_at "I2"
  obtain ⟨b, S, P, ow, gs, past, n, rfl, hb, kE, k⟩ := h
  refine ⟨_, (AG (Au (ptc IT (pv 1) AK) (AD (Ax C5 rfl T.e_OutOfBounds (by rfl) T.m_OutOfBounds (AA AN AC)))
    AX)
   (AG (Au (ptc ID (pv 1) (AO AR (by rfl) T.z_len Av (AA (BH (pv 0) rfl) AC))) (AD (Ax C5 rfl T.e_NothingBack (by rfl) T.m_NothingBack (AA AN AC)))
    AX)
   (AG (pst 2 C3 (Aj Ht (AO AR (by rfl) T.z_len Av (AA (BH (pv 0) rfl) AC)) (pv 1)))
   (AG (EC (pv 0) (pxi AY (BH (pv 0) rfl) (pv 2)) rfl)
   (AG (EC (pv 0) (Et G9 (BH (pv 0) rfl) F8 (Gc (pv 2))) rfl)
   (AD (AL (pv 2)))))))), ?_⟩
  obtain ⟨dx, eb⟩ := hb.at_
  obtain ⟨ps, ep, pr, hps⟩ := hb.pa
  have lp := Paired.length pr
  have lm : (ps.map V.ref).length = past.length := by rw [List.length_map, lp]
  unfold Ek at kE k
  walk_at "Q"
  walk_at "RD"
  by_cases h1 : n < 1
  ·rw [if_pos (decide_eq_true h1)]
   rw [if_pos h1] at kE
   exact ⟨by decide, kE _ rfl⟩
  rw [if_neg (fun z => h1 (of_decide_eq_true z))]
  rw [if_neg h1] at kE k
  walk_at "NX"
  walk_at "Q"
  walk_at "RD"
  refine ⟨_, dx, _, eb, T.cl_Beach, T.n_Beach_past, _, rfl, _, rfl, _, .inl (SqL.of ep), ?_⟩
  rw [lm]
  by_cases h2 : (past.length : Int) < n
  ·rw [if_pos (decide_eq_true h2)]
   rw [if_pos h2] at kE
   exact ⟨by decide, kE _ rfl⟩
  rw [if_neg (fun z => h2 (of_decide_eq_true z))]
  rw [if_neg h2] at k
  walk_at "NX"
  walk_at "Q"
  walk_at "RD"
  refine ⟨_, dx, _, eb, T.cl_Beach, T.n_Beach_past, _, rfl, _, rfl, _, .inl (SqL.of ep), ?_⟩
  rw [lm]
  walk_at "NX"
  walk_at "RD"
  obtain ⟨j, hj⟩ : ∃ j : Nat, (past.length : Int) - n = j := ⟨((past.length : Int) - n).toNat, by lia⟩
  have ej : past.length - n.toNat = j := by lia
  rw [ej] at k
  have hjl : j < past.length := by lia
  obtain ⟨S', hS', gS'⟩ := Paired.get pr (List.getElem?_eq_getElem hjl)
  have hSm : S' ∈ ps := List.mem_of_getElem? hS'
  have hSo := hps S' hSm
  obtain ⟨xs', eS'⟩ := hb.lv S' hSo.1
  have Sb : S' ≠ b := hb.neb eS' fun _ _ _ z => by cases z
  have bP : b ≠ P := Fn eb ep (by simp)
  have hix : atI (ps.map V.ref) ((past.length : Int) - n) = some (V.ref S') := by rw [hj]; exact Ef hS'
  refine ⟨_, dx, _, eb, T.cl_Beach, T.n_Beach_past, _, rfl, _, rfl, _, SqL.of ep, _, hix, _, dx, _, eb, T.cl_Beach, T.n_Beach_standing, (by show 2 < 1000; decide), ?_⟩
  refine ⟨_, dx, _, AI, T.cl_Beach, T.n_Beach_past, _, rfl, _, rfl, _, SqL.of ((AF bP.symm).trans ep), ?_⟩
  intro P2 H2 n2 s2 e2
  have hcut : Ff (ps.map V.ref) none (some ((past.length : Int) - n)) = (ps.take j).map V.ref := by
   rw [hj]
   exact (Hx).trans (List.map_take).symm
  rw [hcut] at e2
  have nP2 : H P2 = none := by
   have h1 : P2 ≠ b := fun z => by rw [z, AI] at n2; cases n2
   rwa [AF h1] at n2
  have P2b : P2 ≠ b := (AB eb nP2).symm
  have hv : (past.length : Int) - n = ((past.take j).length : Int) := by rw [List.length_take]; lia
  rw [hv]
  have kp2 : ∀ a u, a ≠ b → H a = some u → H2 a = some u := fun a u ha e => s2.get ((AF ha).trans e)
  have kp : Kp b b H (upd H2 b (.ins T.C_Beach dx [("standing", .ref S'), ("past", .ref P2)])) := fun a u ha _ e => (AF ha).trans (kp2 a u ha e)
  have kt : ∀ a xs, H a = some (.tup xs) → upd H2 b (.ins T.C_Beach dx [("standing", .ref S'), ("past", .ref P2)]) a = some (.tup xs) := fun a xs e => kp a _ (hb.neb e fun _ _ _ z => by cases z) (hb.neb e fun _ _ _ z => by cases z) e
  have kl : ∀ a ∈ ow, ∀ u, H a = some u → upd H2 b (.ins T.C_Beach dx [("standing", .ref S'), ("past", .ref P2)]) a = some u := fun a ha u e => by
   obtain ⟨_, ea⟩ := hb.lv a ha
   have hab := hb.neb ea fun _ _ _ z => by cases z
   exact kp a u hab hab e
  refine ⟨_, dx, _, s2.get AI, T.cl_Beach, T.n_Beach_past, (by show 2 < 1000; decide), k rfl _ S' P2 (P2 :: ow) kp ?_ fun a ha => ?_⟩
  ·have eg : past.getD j [] = past[j] := by rw [List.getD_eq_getElem?_getD, List.getElem?_eq_getElem hjl]; rfl
   rw [eg]
   refine ⟨⟨dx, AI⟩, gS'.keep (kl S' hSo.1) kt, ⟨ps.take j, (AF P2b).trans e2, ?_, fun a ha => ⟨List.mem_cons_of_mem _ (hps a (List.mem_of_mem_take ha)).1, fun z => (by rw [z] at ha; exact hb.off nP2 (hps P2 (List.mem_of_mem_take ha)).1)⟩⟩, fun z => (by rw [z, nP2] at eS'; cases eS'), List.mem_cons_of_mem _ hSo.1, List.mem_cons_self, hb.stds _ (List.getElem_mem hjl), fun x hx => hb.stds x (List.mem_of_mem_take hx), by rw [List.length_take]; have := hb.len; lia, fun a ha => ?_⟩
   ·exact Paired.keepM (Paired.takeP pr j) fun x y hx q => q.keep (kl x (hps x (List.mem_of_mem_take hx)).1) kt
   ·rcases List.mem_cons.mp ha with z | z
    ·rw [z]; exact ⟨_, (AF P2b).trans e2⟩
    ·obtain ⟨xs, ea⟩ := hb.lv a z
     exact ⟨xs, kl a z _ ea⟩
  ·rcases List.mem_cons.mp ha with z | z
   ·rw [z]; exact .inr nP2
   ·exact .inl z
theorem El : AM ["self"] ["self"] (AE Bq) := by walk_at "SC"
noncomputable def FC {w : World} {K : PySem.W.Frag} {mg : Str → Option Value} (T : Tx w K mg) : Sp := fun vs H Q E => ∃ (b S P : Addr) (ow : List Addr) (gs : List G) (past : List (List G)), vs = [.ref b] ∧ Bch T.C_Beach H b S P ow gs past ∧ ∀ H' D as, H D = none → AH H H' → H' D = some (.lst (as.map V.ref)) → Aa H' as gs → Q (.ref D) H'
theorem CY (T : Tx w K mg) : Ad P w K mg base CX0 1 T.f_Beach_gates T.fd_Beach_gates ["self"] (FC T) := by
 refine T.d_Beach_gates.F.ok El (fun _ _ _ _ h => by walk_at "LN") ?_
 ·walk_at "I2"
  obtain ⟨b, S, P, ow, gs, past, rfl, hb, k⟩ := h
  refine ⟨_, (AD (AL (Ap Hw (by rfl) T.z_list Ib (AA (BH (pv 0) rfl) AC)))), ?_⟩
  obtain ⟨dx, eb⟩ := hb.at_
  obtain ⟨as, es, ga⟩ := hb.st
  walk_at "RD"
  refine ⟨_, dx, _, eb, T.cl_Beach, T.n_Beach_standing, _, rfl, ?_⟩
  refine ⟨_, rfl, _, .inl (SqL.of es), fun l H' n s e => ?_⟩
  exact k H' l as n s e (ga.same s)
theorem E3 : AM ["text"] ["text"] (AE Bx) := by walk_at "SC"
noncomputable def IJ (c : Nat) : Bool := decide (48 ≤ c ∧ c ≤ 57)
theorem NY {c : Nat} : decide (c ∈ [48, 49, 50, 51, 52, 53, 54, 55, 56, 57]) = IJ c := by
 unfold IJ
 refine decide_eq_decide.mpr ?_
 simp only [List.mem_cons, List.not_mem_nil, or_false]
 omega
theorem Ki {l : List Nat} : (l.map IJ).all id = decide (∀ c ∈ l, 48 ≤ c ∧ c ≤ 57) := by
 rw [Bool.eq_iff_iff, List.all_map, List.all_eq_true, decide_eq_true_eq]
 exact ⟨fun h c hc => of_decide_eq_true (h c hc), fun h c hc => decide_eq_true (h c hc)⟩
theorem LC {l : List Nat} (h : ∀ c ∈ l, c < 128) : (tx l).cps.all (· < 128) = true := by
 show l.toArray.all (· < 128) = true
 rw [List.all_toArray, List.all_eq_true]
 exact fun c hc => decide_eq_true (h c hc)
theorem Mb {l : List Nat} {i : Nat} (h : i < l.length) : sg1 (tx l) i = .str (tx [l[i]]) := by
 unfold sg1
 congr 2
 show #[l.toArray.getD i 0] = #[l[i]]
 rw [Array.getD_eq_getD_getElem?, List.getElem?_toArray, List.getElem?_eq_getElem h]
 rfl
theorem txz {l : List Nat} (h : l.length ≤ 1000000) : (tx l).length ≤ sizeLine := by rw [AU, PySem.sizeLine_eq]; lia
noncomputable def FA (K : PySem.W.Frag) : Sp := fun vs H Q _ => ∃ l : List Nat, vs = [.str (tx l)] ∧ (∀ c ∈ l, c < 128) ∧ l.length ≤ 100000 ∧ ∀ H', AH H H' → Q (.bl (decide (1 ≤ l.length ∧ l.length ≤ 9 ∧ ∀ c ∈ l, 48 ≤ c ∧ c ≤ 57))) H'
theorem Ew (T : Tx w K mg) : Ad P w K mg base CX0 1 T.f_are_figures T.fd_are_figures ["text"] (FA K) := by
 refine T.d_are_figures.F.ok E3 (fun _ _ _ _ h => by walk_at "LN") ?_
 ·walk_at "I2"
  obtain ⟨l, rfl, asc, hz, k⟩ := h
  refine ⟨_, (AG (Au (Eh (ptc IT (AO Dp (by rfl) T.z_len Av (AA (pv 0) AC)) AK) (DD (ptc ID (AO Dp (by rfl) T.z_len Av (AA (pv 0) AC)) (Cg (v := .int (9)) (by rfl) T.k_MOST_FIGURES T.r_MOST_FIGURES)))).pt (AD (AL C1))
    AX)
   (AD (AL (AO (Jt (by rfl)) (by rfl) T.z_all OV (AA (Da rfl (⟨rfl, by decide +kernel, by decide +kernel, by decide +kernel, rfl, by decide +kernel, by with_unfolding_all rfl, by rfl, by rfl, by rfl⟩ : Ab _ _ "sign" [] []) (NO (pv 0)) (fun _ _ _ _  => (IE Ir (pv 0) (Cg (v := .str "0123456789") (by rfl) T.k_FIGURES T.r_FIGURES) (by with_unfolding_all rfl))) (fun _ _ _ _ => Ch)) AC))))), ?_⟩
  walk_at "Q"
  walk_at "RD"
  have hz2 : (tx l).length ≤ sizeLine := txz (by lia)
  refine ⟨hz2, ?_⟩
  rw [AU] at hz2 ⊢
  by_cases h1 : l.length < 1
  ·rw [if_pos (decide_eq_true (by lia))]
   rw [decide_eq_false (by lia)] at k
   exact k _ (AH.refl _)
  rw [if_neg (fun z => h1 (by have := of_decide_eq_true z; lia))]
  refine ⟨hz2, ?_⟩
  by_cases h9 : 9 < l.length
  ·rw [if_pos (decide_eq_true (by lia))]
   rw [decide_eq_false (by lia)] at k
   exact k _ (AH.refl _)
  rw [if_neg (fun z => h9 (by have := of_decide_eq_true z; lia))]
  walk_at "NX"
  delta iStr
  refine ⟨LC asc, fun D nD => ?_⟩
  refine JU (fun i ys H' => AH H H' ∧ H' D = some (.lst ys) ∧ ys = ((l.take i).map IJ).map V.bl) ⟨AZ nD, AI, rfl⟩ ?_ ?_
  ·rintro i ys H1 hi hy ⟨s1, e1, e2⟩
   have hi : i < l.length := hi
   have es : (tx l).cps.size = l.length := List.size_toArray ..
   rw [Mb hi]
   walk_at "RD"
   rw [o_fig, OY, NY]
   refine FJ.of (by rw [es]; exact hz2) (by rw [es]; exact hi) hy e1 ⟨s1.updFresh nD, AI, ?_⟩
   rw [e2, List.take_succ_eq_append_getElem hi, List.map_append, List.map_append]
   rfl
  ·rintro ys H1 hy ⟨s1, e1, e2⟩
   have es : (tx l).cps.size = l.length := List.size_toArray ..
   rw [es, List.take_length] at e2
   rw [e2] at e1
   refine ⟨_, SqL.of e1, ?_⟩
   rw [Ki]
   have := k _ s1
   rw [show decide (1 ≤ l.length ∧ l.length ≤ 9 ∧ ∀ c ∈ l, 48 ≤ c ∧ c ≤ 57) = decide (∀ c ∈ l, 48 ≤ c ∧ c ≤ 57) from decide_eq_decide.mpr ⟨fun z => z.2.2, fun z => ⟨by lia, by lia, z⟩⟩] at this
   exact this
theorem Be : AM ["text", "figures"] ["text"] (AE Br) := by walk_at "SC"
theorem Jn : Str.ofString "0" = tx [48] := by rfl
theorem Ke : Str.ofString "-" = tx [45] := by rfl
theorem tyS {K : PySem.W.Frag} {x : Str} {H : Hp} : tyV K "str" (.str x) H := rfl
noncomputable def Ep {w : World} {K : PySem.W.Frag} {mg : Str → Option Value} (T : Tx w K mg) : Sp := fun vs H Q E => ∃ l : List Nat, vs = [.str (tx l)] ∧ (∀ c ∈ l, c < 128) ∧ l.length ≤ 100000 ∧ (rdN l = none → ∀ H', AH H H' → E (T.err .badrow) none H') ∧ ∀ n, rdN l = some n → ∀ H', AH H H' → Q (.int n) H'
theorem Eg (T : Tx w K mg) : Ad P w K mg base (CXE P w) 2 T.f_read_number T.fd_read_number ["text"] (Ep T) := by
 refine T.d_read_number.F.okX Be (fun _ _ _ _ h => by walk_at "LN") ?_
 ·walk_at "I2"
  obtain ⟨l, rfl, asc, hz, kE, k⟩ := h
  refine ⟨_, (AG (Au (ptc Jj (pv 0) AN) (AD (AL AK))
    AX)
   (AG (pst 1 Be (pv 0))
   (AG (Au (Bt (EI PySem.F.plainAttrs_str PySem.F.slot_str_startswith PySem.F.type_str_startswith Fw (pv 0) (AA AN AC))) (AD (pst 1 Be (Et Lh (pv 0) (Gc AK) F8)))
    AX)
   (AG (Au (Eh (C7 (Bt (pcl T.d_are_figures (Ew T) hr At (AA (pv 1) AC)))) (DD (Bt (EI PySem.F.plainAttrs_str PySem.F.slot_str_startswith PySem.F.type_str_startswith Fw (pv 1) (AA AN AC))))).pt (AD (Ax C5 rfl T.e_BadRow (by rfl) T.m_BadRow (AA AN AC)))
    AX)
   (AD (AL (Ap FZ (by rfl) T.z_int KC (AA (pv 0) AC)))))))), ?_⟩
  have hz2 : (tx l).length ≤ sizeLine := txz (by lia)
  walk_at "Q"
  walk_at "RD"
  rw [Jn]
  by_cases h0 : l = [48]
  ·rw [if_pos (decide_eq_true (by rw [h0]))]
   exact k 0 (by unfold rdN; rw [if_pos h0]) _ (AH.refl _)
  rw [if_neg (fun z => h0 (GZ.mp (of_decide_eq_true z)))]
  walk_at "NX"
  walk_at "Q"
  walk_at "RD"
  walk_at "NX"
  walk_at "Q"
  have bl : (bare l).length ≤ l.length := by
   unfold bare
   split
   ·rw [List.length_drop]; lia
   ·lia
  have bm : ∀ c ∈ bare l, c ∈ l := fun c hc => by
   unfold bare at hc
   split at hc
   ·exact List.mem_of_mem_drop hc
   ·exact hc
  have rest : M [some (.str (tx l)), some (.str (tx (bare l)))] H := by
   refine hM _ _ ?_
   clear hM M
   walk_at "Q"
   walk_at "RD"
   refine ⟨bare l, rfl, fun c hc => asc c (bm c hc), by lia, fun H1 s1 => ⟨_, rfl, ?_⟩⟩
   by_cases hf : 1 ≤ (bare l).length ∧ (bare l).length ≤ 9 ∧ ∀ c ∈ bare l, 48 ≤ c ∧ c ≤ 57
   ·rw [decide_eq_true hf, if_neg (by decide)]
    delta tBM GG
    refine ⟨tyS, ?_⟩
    rw [Jn, En]
    by_cases hh : (bare l).head? = some 48
    ·rw [if_pos (by rw [hh]; rfl)]
     exact ⟨by decide, kE (by unfold rdN; rw [if_neg h0, if_neg (fun z => z.2.2.2 hh)]) _ s1⟩
    ·rw [if_neg (fun z => hh (by simpa using z))]
     walk_at "NX"
     walk_at "RD"
     have hr : rdN l = some (if FP l then -(NumText.digitsVal (bare l) : Int) else NumText.digitsVal (bare l)) := by
      unfold rdN
      rw [if_neg h0, if_pos ⟨hf.1, hf.2.1, hf.2.2, hh⟩]
     have hb0 : bare l ≠ [] := fun z => by rw [z] at hf; exact absurd hf.1 (by simp)
     refine ⟨_, ?_, by rw [AU]; have := hf.2.1; unfold bare at this; split at this <;> (try rw [List.length_drop] at this) <;> lia, k _ hr _ s1⟩
     by_cases hn : FP l = true
     ·rw [if_pos hn]
      have e : (tx l).cps.toList = 45 :: bare l := by
       show l = _
       unfold bare
       rw [if_pos hn]
       unfold FP at hn
       cases l with
       | nil => cases hn
       | cons a r =>
        have : a = 45 := by simpa using hn
        rw [this]
        rfl
      exact intText_neg e hf.2.2 hb0 (by rw [AU]; have : l.length = (bare l).length + 1 := congrArg List.length e; lia)
     ·rw [if_neg hn]
      have e : bare l = l := by unfold bare; rw [if_neg hn]
      have h2 := hf.2.2
      rw [e] at h2 hb0 ⊢
      exact intText_digits (x := tx l) h2 hb0 (by rw [AU]; rw [e] at hf; lia)
   ·rw [decide_eq_false hf, if_pos (by decide)]
    exact ⟨by decide, kE (by unfold rdN; rw [if_neg h0, if_neg (fun z => hf ⟨z.1, z.2.1, z.2.2.1⟩)]) _ s1⟩
  clear hM
  delta tBM GG
  refine ⟨tyS, ?_⟩
  rw [Ke, En]
  by_cases hn : FP l = true
  ·have eb : bare l = l.drop 1 := by unfold bare; rw [if_pos hn]
   rw [eb] at rest
   unfold FP at hn
   rw [if_pos hn]
   refine ⟨_, rfl, hz2, ?_⟩
   rw [show (some 1 : Option Int) = some ((1 : Nat) : Int) from rfl, Hh]
   exact rest
  ·have eb : bare l = l := by unfold bare; rw [if_neg hn]
   rw [eb] at rest
   unfold FP at hn
   rw [if_neg hn]
   exact rest
theorem FR : AM ["words", "many"] ["words", "many"] (AE B6) := by walk_at "SC"
noncomputable abbrev OkW (ws : List (List Nat)) : Prop := (∀ p ∈ ws, (∀ c ∈ p, c < 128) ∧ p.length ≤ 100000) ∧ ws.length ≤ 100001
noncomputable def numsOf : List (List Nat) → Option (List Int)
 | [] => some []
 | w :: r => match rdN w with
  | none => none
  | some n => (numsOf r).map (n :: ·)
theorem EL : ∀ {ws : List (List Nat)} {w : List Nat}, w ∈ ws → rdN w = none → numsOf ws = none
 | a :: r, w, h, e => by
  unfold numsOf
  rcases List.mem_cons.mp h with rfl | h
  ·rw [e]
  ·rw [EL h e]
   cases rdN a <;> rfl
theorem EM : ∀ {ws : List (List Nat)} {ns : List Int} {w : List Nat} {n : Int}, numsOf ws = some ns → rdN w = some n → numsOf (ws ++ [w]) = some (ns ++ [n])
 | [], ns, w, n, h, e => by
  cases (show some [] = some ns from h)
  show numsOf [w] = _
  unfold numsOf
  rw [e]; rfl
 | a :: r, ns, w, n, h, e => by
  unfold numsOf at h
  cases ha : rdN a with
  | none => rw [ha] at h; cases h
  | some m =>
   rw [ha] at h
   obtain ⟨ms, h1, h2⟩ := Option.map_eq_some_iff.mp h
   show numsOf (a :: (r ++ [w])) = _
   unfold numsOf
   rw [ha, ← h2]
   show Option.map _ (numsOf (r ++ [w])) = _
   rw [EM h1 e]; rfl
noncomputable def FT {w : World} {K : PySem.W.Frag} {mg : Str → Option Value} (T : Tx w K mg) : Sp := fun vs H Q E => ∃ (W : Addr) (ws : List (List Nat)) (n : Int), vs = [.ref W, .int n] ∧ SqL K H W (tvs ws) ∧ OkW ws ∧ ((ws.length : Int) ≠ n → E (T.err .badrow) none H) ∧ ((ws.length : Int) = n → Q .non H)
theorem Cu (T : Tx w K mg) : Ad P w K mg base (CXE P w) 1 T.f_check_many T.fd_check_many ["words", "many"] (FT T) := by
 refine T.d_check_many.F.okX FR (fun _ _ _ _ h => by walk_at "LN") ?_
 ·walk_at "I2"
  obtain ⟨W, ws, n, rfl, hW, ok, kE, k⟩ := h
  refine ⟨_, (AD (Au (ptc Fq (AO AR (by rfl) T.z_len Av (AA (pv 0) AC)) (pv 1)) (AD (Ax C5 rfl T.e_BadRow (by rfl) T.m_BadRow (AA AN AC)))
    AX)), ?_⟩
  walk_at "RD"
  refine ⟨_, .inl hW, ?_⟩
  rw [List.length_map]
  by_cases h : (ws.length : Int) = n
  ·rw [decide_eq_true h, if_neg (by decide)]
   exact k h
  ·rw [decide_eq_false h, if_pos (by decide)]
   exact ⟨by decide, kE h⟩
theorem Ea : AM ["words"] ["words"] (AE Bf) := by walk_at "SC"
noncomputable def EV {w : World} {K : PySem.W.Frag} {mg : Str → Option Value} (T : Tx w K mg) : Sp := fun vs H Q E => ∃ (W : Addr) (ws : List (List Nat)), vs = [.ref W] ∧ SqL K H W (tvs ws) ∧ OkW ws ∧ (numsOf ws = none → ∀ H', AH H H' → E (T.err .badrow) none H') ∧ ∀ ns, numsOf ws = some ns → ∀ D H', H D = none → AH H H' → H' D = some (.lst (ns.map V.int)) → Q (.ref D) H'
theorem Eb (T : Tx w K mg) : Ad P w K mg base (CXE P w) 3 T.f_read_numbers T.fd_read_numbers ["words"] (EV T) := by
 refine T.d_read_numbers.F.okX Ea (fun _ _ _ _ h => by walk_at "LN") ?_
 ·walk_at "I2"
  obtain ⟨W, ws, rfl, hW, ok, kE, k⟩ := h
  refine ⟨_, (AD (AL (JV rfl (⟨rfl, by decide +kernel, by decide +kernel, by decide +kernel, rfl, by decide +kernel, by with_unfolding_all rfl, by rfl, by rfl, by rfl⟩ : Ab _ _ "word" [] []) (Cj (pv 0)) (fun _ _ _ _ _ _ hp => (G4 (Eg T) (hr.mono (by decide)) (by rfl) T.d_read_number.m T.d_read_number.F.kp T.d_read_number.b .nil hp (AA (pv 0) AC))) (fun _ _ _ _ => Ch)))), ?_⟩
  delta EH
  refine ⟨⟨_, hW⟩, fun D nD => ?_⟩
  have hz := ok.2
  refine Fp (xs := tvs ws) (fun i ys H' => ∃ ns : List Int, ys = ns.map V.int ∧ AH H H' ∧ H' D = some (.lst ys) ∧ numsOf (ws.take i) = some ns) ⟨[], rfl, AZ nD, AI, rfl⟩ (fun _ _ H' _ ⟨_, _, s2, _⟩ => s2.seq hW) ?_ ?_
  ·rintro i v ys H2 hx hy ⟨ns, rfl, s2, e2, hn⟩
   have hi : i < ws.length := by
    have := (List.getElem?_eq_some_iff.mp hx).1
    rwa [List.length_map] at this
   have ev : v = V.str (tx ws[i]) := by
    rw [List.getElem?_map, List.getElem?_eq_getElem hi] at hx
    exact (Option.some.inj hx).symm
   subst ev
   have et : ws.take (i + 1) = ws.take i ++ [ws[i]] := List.take_succ_eq_append_getElem hi
   have hm := List.getElem_mem hi
   delta Hk
   refine ⟨ws[i], rfl, (ok.1 _ hm).1, (ok.1 _ hm).2, fun hr H3 s3 => kE (EL hm hr) _ (s2.trans s3), fun n hr H3 s3 => ?_⟩
   rw [List.length_map] at hy ⊢
   refine FJ.of (by rw [PySem.sizeLine_eq]; lia) hi (by rw [List.length_map]; exact hy) (s3.get e2) ⟨ns ++ [n], by rw [List.map_append]; rfl, (s2.trans s3).updFresh nD, AI, ?_⟩
   rw [et]
   exact EM hn hr
  ·rintro ys H2 hy ⟨ns, rfl, s2, e2, hn⟩
   rw [List.length_map, List.take_length] at hn
   exact k ns hn D H2 nD s2 e2
theorem EU : AM ["words", "many"] ["words", "many"] (AE Bg) := by walk_at "SC"
noncomputable def ET {w : World} {K : PySem.W.Frag} {mg : Str → Option Value} (T : Tx w K mg) : Sp := fun vs H Q E => ∃ (W : Addr) (ws : List (List Nat)) (n : Int), vs = [.ref W, .int n] ∧ SqL K H W (tvs ws) ∧ OkW ws ∧ ((ws.length : Int) ≠ n ∨ numsOf ws = none → ∀ H', AH H H' → E (T.err .badrow) none H') ∧ ∀ ns, (ws.length : Int) = n → numsOf ws = some ns → ∀ D H', H D = none → AH H H' → H' D = some (.lst (ns.map V.int)) → Q (.ref D) H'
theorem CK (T : Tx w K mg) : Ad P w K mg base (CXE P w) 4 T.f_read_so_many T.fd_read_so_many ["words", "many"] (ET T) := by
 refine T.d_read_so_many.F.okX EU (fun _ _ _ _ h => by walk_at "LN") ?_
 ·walk_at "I2"
  obtain ⟨W, ws, n, rfl, hW, ok, kE, k⟩ := h
  refine ⟨_, (AG (A2 (pcl T.d_check_many (Cu T) hr Ca (AA (pv 0) (AA (pv 1) AC))))
   (AD (AL (pcl T.d_read_numbers (Eb T) hr Ca (AA (pv 0) AC))))), ?_⟩
  walk_at "RD"
  exact ⟨W, ws, n, rfl, hW, ok, fun h => kE (.inl h) _ (AH.refl _), fun h => ⟨W, ws, rfl, hW, ok, fun z => kE (.inr z), fun ns hn => k ns h hn⟩⟩
theorem EW : AM ["numbers"] ["numbers"] (AE Bc) := by walk_at "SC"
theorem lgT {i : Int} {n : Nat} (h : i.natAbs < 2 ^ n) (hn : 0 < n) (h2 : n ≤ 1900) : i.natAbs.log2 < 1920 := by
 rcases Nat.eq_zero_or_pos i.natAbs with h0 | hp
 ·rw [h0]; decide
 ·have := (Nat.log2_lt (Nat.ne_of_gt hp)).mpr h
  lia
theorem Gu {n : Int} (h : n.natAbs ≤ 10 ^ 40) : n.natAbs.log2 < 1920 := lgT (n := 140) (Nat.lt_of_le_of_lt h (by decide +kernel)) (by decide) (by decide)
theorem CB {n : Int} (h : n.natAbs ≤ 10 ^ 40) : (dec n).length ≤ 42 := Kn (k := 41) (by decide) (Nat.lt_of_le_of_lt h (by decide +kernel))
noncomputable def EZ (K : PySem.W.Frag) : Sp := fun vs H Q _ => ∃ (a : Addr) (ns : List Int), vs = [.ref a] ∧ (SqL K H a (ns.map V.int) ∨ SqT K H a (ns.map V.int)) ∧ (∀ n ∈ ns, n.natAbs ≤ 10 ^ 40) ∧ ns.length ≤ 100000 ∧ ∀ D H', H D = none → AH H H' → H' D = some (.lst (tvs (ns.map dec))) → Q (.ref D) H'
theorem CM (T : Tx w K mg) : Ad P w K mg base CX0 1 T.f_number_words T.fd_number_words ["numbers"] (EZ K) := by
 refine T.d_number_words.F.ok EW (fun _ _ _ _ h => by walk_at "LN") ?_
 ·walk_at "I2"
  obtain ⟨a, ns, rfl, ha, hn, hl, k⟩ := h
  refine ⟨_, (AD (AL (Da rfl (⟨rfl, by decide +kernel, by decide +kernel, by decide +kernel, rfl, by decide +kernel, by with_unfolding_all rfl, by rfl, by rfl, by rfl⟩ : Ab _ _ "number" [] []) (Mi (pv 0)) (fun _ _ _ _  => (Ap Ak (by rfl) T.z_str CN (AA (pv 0) AC))) (fun _ _ _ _ => Ch)))), ?_⟩
  delta iSeq EH PY
  have go : ∀ (J : It) (D : Addr), ((∃ a, J = Itl K a ∧ SqL K H a (ns.map V.int)) ∨ ∃ a, J = Itt K a ∧ SqT K H a (ns.map V.int)) → H D = none → B0 (tCB (fun xs H Q => ∃ i, xs = [V.int i] ∧ i.natAbs.log2 < 1920 ∧ Q (V.str (Str.ofString (toString i))) H) (CO (Dy 0) Ds)) Bw [] J D H fun H' => Q (V.ref D) H' := fun J D hJ nD => by
   refine K4 hJ (by lia) nD (fun n H2 R hm s2 hR => ?_) fun H2 s2 e2 => k D H2 nD s2 e2
   walk_at "RD"
   refine ⟨Gu (hn n hm), ?_⟩
   rw [A9]
   exact hR
  exact ha.imp (fun h => ⟨⟨_, h⟩, fun D nD => go _ D (.inl ⟨a, rfl, h⟩) nD⟩) fun h => ⟨⟨_, h⟩, fun D nD => go _ D (.inr ⟨a, rfl, h⟩) nD⟩
theorem GV : AM ["gate"] ["gate"] (AE CV) := by walk_at "SC"
noncomputable def LU (p f h : Int) : List Nat := A3 [32] [[103, 97, 116, 101], dec p, dec f, dec h]
theorem KH : Str.ofString " " = tx [32] := by rfl
theorem MN : Str.ofString "gate" = tx [103, 97, 116, 101] := by rfl
noncomputable def Gm (K : PySem.W.Frag) : Sp := fun vs H Q _ => ∃ (a : Addr) (p f h : Int), vs = [.ref a] ∧ H a = some (.tup [.int p, .int f, .int h]) ∧ p.natAbs ≤ 10 ^ 40 ∧ f.natAbs ≤ 10 ^ 40 ∧ h.natAbs ≤ 10 ^ 40 ∧ ∀ H', AH H H' → Q (.str (tx (LU p f h))) H'
theorem GX (T : Tx w K mg) : Ad P w K mg base CX0 2 T.f_gate_text T.fd_gate_text ["gate"] (Gm K) := by
 refine T.d_gate_text.F.ok GV (fun _ _ _ _ h => by walk_at "LN") ?_
 ·walk_at "I2"
  obtain ⟨a, p, f, h, rfl, ea, hp, hf, hh, k⟩ := h
  refine ⟨_, (AD (AL (EI PySem.F.plainAttrs_str PySem.F.slot_str_join PySem.F.type_str_join Ed AN (AA (Aj Ee (Ar (AA AN AC)) (pcl T.d_number_words (CM T) hr At (AA (pv 0) AC))) AC)))), ?_⟩
  delta tBM Ey
  refine ⟨tyS, by decide, fun D1 H1 n1 s1 e1 => ⟨a, [p, f, h], rfl, .inr (SqT.of (s1.get ea)), fun n hn => ?_, by show 3 ≤ 100000; decide, fun D2 H2 n2 s2 e2 => ?_⟩⟩
  ·simp only [List.mem_cons, List.not_mem_nil, or_false] at hn
   rcases hn with rfl | rfl | rfl <;> assumption
  refine ⟨_, rfl, _, s2.get e1, _, e2, by rw [PySem.sizeLine_eq]; show 1 + 3 ≤ _; decide, fun D3 H3 n3 s3 e3 => ⟨[32], KH, [[103, 97, 116, 101], dec p, dec f, dec h], SqL.of (by rw [MN] at e3; exact e3), ?_, k _ (s1.trans (s2.trans s3))⟩⟩
  have := CB hp
  have := CB hf
  have := CB hh
  simp only [List.map_cons, List.map_nil, List.sum_cons, List.sum_nil, List.length_cons, List.length_nil]
  lia
theorem Fg : AM ["many"] ["many"] (AE CG) := by walk_at "SC"
noncomputable def Jw (n : Int) : List Nat := A3 [32] [[100, 101, 101, 100, 115], dec n]
theorem Jg : Str.ofString "deeds " = tx [100, 101, 101, 100, 115, 32] := by rfl
noncomputable def FV (K : PySem.W.Frag) : Sp := fun vs H Q _ => ∃ (n : Int), vs = [.int n] ∧ n.natAbs ≤ 10 ^ 40 ∧ Q (.str (tx (Jw n))) H
theorem Cp (T : Tx w K mg) : Ad P w K mg base CX0 1 T.f_deeds_text T.fd_deeds_text ["many"] (FV K) := by
 refine T.d_deeds_text.F.ok Fg (fun _ _ _ _ h => by walk_at "LN") ?_
 ·walk_at "I2"
  obtain ⟨n, rfl, hn, k⟩ := h
  refine ⟨_, (AD (AL (Kj (pv 0)))), ?_⟩
  delta LO
  rw [A9, Jg]
  have := CB hn
  refine ⟨Gu hn, by rw [AU, AU, PySem.sizeLine_eq]; simp only [List.length_cons, List.length_nil]; lia, ?_⟩
  rw [Bd]
  exact k
theorem E5 : AM ["beach", "words", "numbers"] ["beach", "words"] (AE EB) := by walk_at "SC"
theorem Jc : ∀ {ws : List (List Nat)} {ns : List Int}, numsOf ws = some ns → ns.length = ws.length ∧ ∀ n ∈ ns, n.natAbs ≤ 999999999
 | [], ns, h => by cases (show some [] = some ns from h); exact ⟨rfl, fun _ z => absurd z (by simp)⟩
 | w :: r, ns, h => by
  unfold numsOf at h
  cases ha : rdN w with
  | none => rw [ha] at h; cases h
  | some m =>
   rw [ha] at h
   obtain ⟨ms, h1, rfl⟩ := Option.map_eq_some_iff.mp h
   obtain ⟨h2, h3⟩ := Jc h1
   refine ⟨by rw [List.length_cons, List.length_cons, h2], fun n hn => ?_⟩
   rcases List.mem_cons.mp hn with rfl | hn
   ·exact num9 ha
   ·exact h3 n hn
noncomputable def B9 {w : World} {K : PySem.W.Frag} {mg : Str → Option Value} (T : Tx w K mg) : Sp := fun vs H Q E => ∃ (b S P : Addr) (ow : List Addr) (gs : List G) (past : List (List G)) (W : Addr) (ws : List (List Nat)), vs = [.ref b, .ref W] ∧ Bch T.C_Beach H b S P ow gs past ∧ SqL K H W (tvs ws) ∧ OkW ws ∧ (ws.length ≠ 3 ∨ numsOf ws = none → ∀ H', AH H H' → E (T.err .badrow) none H') ∧ ∀ p f h, numsOf ws = some [p, f, h] → (∀ e, Es gs past p f h = some e → ∀ H', AH H H' → E (T.err e) none H') ∧ (Es gs past p f h = none → ∀ H' S' ow', Kp b P H H' → Bch T.C_Beach H' b S' P ow' (Co gs p [⟨p, f, h⟩]) (past ++ [gs]) → (∀ a ∈ ow', a ∈ ow ∨ H a = none) → Q (.str (tx (LU p f h))) H')
theorem Hg (T : Tx w K mg) : Ad P w K mg base (CXE P w) 5 T.f_put_row T.fd_put_row ["beach", "words"] (B9 T) := by
 refine T.d_put_row.F.okX E5 (fun _ _ _ _ h => by walk_at "LN") ?_
 ·walk_at "I2"
  obtain ⟨b, S, P, ow, gs, past, W, ws, rfl, hb, hW, ok, kE, k⟩ := h
  refine ⟨_, (AG (pst 2 E5 (pcl T.d_read_so_many (CK T) hr Ca (AA (pv 1) (AA AK AC))))
   (AD (AL (pcl T.d_gate_text (GX T) hr At (AA (Bm (pv 0) T.cl_Beach T.d_Beach_put.mt (Df T) (hr.mono (by decide)) T.d_Beach_put.b .nil Ca (AA (pxi AY (pv 2) AK) (AA (pxi AY (pv 2) AK) (AA (pxi AY (pv 2) AK) AC)))) AC))))), ?_⟩
  walk_at "Q"
  walk_at "RD"
  refine ⟨W, ws, 3, rfl, hW, ok, fun h H1 s1 => kE (h.imp (fun h z => h (by lia)) id) H1 s1, fun ns h3 hn D H1 n1 s1 e1 => ?_⟩
  walk_at "NX"
  obtain ⟨hl, h9⟩ := Jc hn
  obtain ⟨p, f, h, rfl⟩ := Nk (hl.trans (by lia))
  obtain ⟨k1, k2⟩ := k p f h hn
  clear k kE
  have hb1 := hb.same s1
  obtain ⟨dx, eb⟩ := hb1.at_
  walk_at "RD"
  have big : 999999999 ≤ 10 ^ 40 := by decide +kernel
  refine ⟨dx, _, eb, rfl, _, SqL.of e1, _, rfl, _, SqL.of e1, _, rfl, _, SqL.of e1, _, rfl, ?_⟩
  refine ⟨b, S, P, ow, gs, past, p, f, h, rfl, hb1, fun e he H2 s2 => k1 e he _ (s1.trans s2), fun hE H2 S' ow' D2 kp b2 o2 e2 => ?_⟩
  exact ⟨D2, p, f, h, rfl, e2, Nat.le_trans (h9 p (by simp)) big, Nat.le_trans (h9 f (by simp)) big, Nat.le_trans (h9 h (by simp)) big, fun H3 s3 => k2 hE H3 S' ow' ((Kp.of s1).trans (kp.trans (Kp.of s3))) (b2.same s3) fun a ha => (o2 a ha).imp id fun z => s1.free z⟩
theorem EK : AM ["beach", "words", "numbers"] ["beach", "words"] (AE DB) := by walk_at "SC"
theorem kpP {C b S P : Addr} {ow : List Addr} {gs : List G} {past : List (List G)} {H H' : Hp} (_ : Bch C H b S P ow gs past) (k : Kp b b H H') : Kp b P H H' := fun a u h1 _ e => k a u h1 h1 e
theorem lenB {α : Type} {l : List α} (h : l.length ≤ 300) : (l.length : Int).natAbs ≤ 10 ^ 40 := Nat.le_trans (show (l.length : Int).natAbs ≤ 300 by lia) (by decide +kernel)
noncomputable def Bl {w : World} {K : PySem.W.Frag} {mg : Str → Option Value} (T : Tx w K mg) : Sp := fun vs H Q E => ∃ (b S P : Addr) (ow : List Addr) (gs : List G) (past : List (List G)) (W : Addr) (ws : List (List Nat)), vs = [.ref b, .ref W] ∧ Bch T.C_Beach H b S P ow gs past ∧ SqL K H W (tvs ws) ∧ OkW ws ∧ (2 ≤ ws.length ∨ numsOf ws = none → ∀ H', AH H H' → E (T.err .badrow) none H') ∧ ∀ n, (ws = [] ∧ n = 1 ∨ numsOf ws = some [n]) → (∀ e, Ek past n = some e → ∀ H', AH H H' → E (T.err e) none H') ∧ (Ek past n = none → ∀ H' S' P' ow', Kp b P H H' → Bch T.C_Beach H' b S' P' ow' (past.getD (past.length - n.toNat) []) (past.take (past.length - n.toNat)) → (∀ a ∈ ow', a ∈ ow ∨ H a = none) → Q (.str (tx (Jw ((past.take (past.length - n.toNat)).length : Int)))) H')
theorem G0 (T : Tx w K mg) : Ad P w K mg base (CXE P w) 5 T.f_back_row T.fd_back_row ["beach", "words"] (Bl T) := by
 refine T.d_back_row.F.okX EK (fun _ _ _ _ h => by walk_at "LN") ?_
 ·walk_at "I2"
  obtain ⟨b, S, P, ow, gs, past, W, ws, rfl, hb, hW, ok, kE, k⟩ := h
  refine ⟨_, (AG (Au (ptc Jj (AO AR (by rfl) T.z_len Av (AA (pv 1) AC)) AK) (AD (AL (pcl T.d_deeds_text (Cp T) hr At (AA (Dl (pv 0) T.cl_Beach T.d_Beach_back.mt (Bs T) (hr.mono (by decide)) T.d_Beach_back.bd.choose_spec.2 T.d_Beach_back.bd.choose_spec.1 Ca) AC))))
    AX)
   (AG (pst 2 EK (pcl T.d_read_so_many (CK T) hr Ca (AA (pv 1) (AA AK AC))))
   (AD (AL (pcl T.d_deeds_text (Cp T) hr At (AA (Bm (pv 0) T.cl_Beach T.d_Beach_back.mt (Bs T) (hr.mono (by decide)) T.d_Beach_back.b .nil Ca (AA (pxi AY (pv 2) AK) AC)) AC)))))), ?_⟩
  obtain ⟨dx, eb⟩ := hb.at_
  walk_at "Q"
  walk_at "RD"
  refine ⟨_, .inl hW, ?_⟩
  rw [List.length_map]
  by_cases h0 : ws = []
  ·rw [if_pos (decide_eq_true (by rw [h0]; rfl))]
   obtain ⟨k1, k2⟩ := k 1 (.inl ⟨h0, rfl⟩)
   refine ⟨dx, _, eb, rfl, b, S, P, ow, gs, past, 1, rfl, hb, fun e he => k1 e he _ (AH.refl _), fun hE H' S' P' ow' kp b2 o2 => ⟨_, rfl, ?_, k2 hE H' S' P' ow' (kpP hb kp) b2 o2⟩⟩
   exact lenB b2.len
  ·rw [if_neg (fun z => h0 (List.length_eq_zero_iff.mp (by have := of_decide_eq_true z; lia)))]
   walk_at "NX"
   walk_at "RD"
   refine ⟨W, ws, 1, rfl, hW, ok, fun h H1 s1 => kE (h.imp (fun h => ?_) id) H1 s1, fun ns h1 hn D H1 n1 s1 e1 => ?_⟩
   ·have := List.length_pos_iff.mpr h0
    lia
   obtain ⟨hl, h9⟩ := Jc hn
   obtain ⟨n, rfl⟩ := LA (hl.trans (by lia))
   obtain ⟨k1, k2⟩ := k n (.inr hn)
   refine ⟨dx, _, s1.get eb, rfl, D, rfl, _, SqL.of e1, _, rfl, b, S, P, ow, gs, past, n, rfl, hb.same s1, fun e he => k1 e he _ s1, fun hE H' S' P' ow' kp b2 o2 => ⟨_, rfl, ?_, k2 hE H' S' P' ow' ((Kp.of s1).trans (kpP (hb.same s1) kp)) b2 fun a ha => (o2 a ha).imp id fun z => s1.free z⟩⟩
   exact lenB b2.len
theorem GD : AM ["beach", "words"] ["beach", "words"] (AE CW) := by walk_at "SC"
theorem Hj {c : Nat} : ∀ {l : List Nat}, (∀ x ∈ l, x ≤ c) → l.sum ≤ c * l.length
 | [], _ => by simp
 | a :: r, h => by
  rw [List.sum_cons, List.length_cons, Nat.mul_succ]
  have := h a List.mem_cons_self
  have := Hj fun x hx => h x (List.mem_cons_of_mem _ hx)
  lia
theorem Du {α : Type} {f : α → List Nat} : ∀ {ys : List V} {gs : List α}, Paired (fun v g => v = V.str (tx (f g))) ys gs → ys = tvs (gs.map f)
 | _, _, .nil => rfl
 | _, _, .cons h r => by rw [h, Du r]; rfl
theorem LX : Str.ofString ":" = tx [58] := by rfl
theorem GH : Str.ofString "gates" = tx [103, 97, 116, 101, 115] := by rfl
theorem Dw {n : Int} (h : -1000 ≤ n ∧ n ≤ 1000) : n.natAbs ≤ 10 ^ 40 := Nat.le_trans (show n.natAbs ≤ 1000 by lia) (by decide +kernel)
noncomputable def Ai (g : G) : List Nat := A3 [58] [dec g.p, dec g.f, dec g.h]
noncomputable def Hy (gs : List G) : List Nat := A3 [32] ([103, 97, 116, 101, 115] :: gs.map Ai)
noncomputable def BK {w : World} {K : PySem.W.Frag} {mg : Str → Option Value} (T : Tx w K mg) : Sp := fun vs H Q E => ∃ (b S P : Addr) (ow : List Addr) (gs : List G) (past : List (List G)) (W : Addr) (ws : List (List Nat)), vs = [.ref b, .ref W] ∧ Bch T.C_Beach H b S P ow gs past ∧ SqL K H W (tvs ws) ∧ OkW ws ∧ (ws ≠ [] → ∀ H', AH H H' → E (T.err .badrow) none H') ∧ (ws = [] → ∀ H', AH H H' → Q (.str (tx (Hy gs))) H')
theorem GM (T : Tx w K mg) : Ad P w K mg base (CXE P w) 2 T.f_gates_row T.fd_gates_row ["beach", "words"] (BK T) := by
 refine T.d_gates_row.F.okX GD (fun _ _ _ _ h => by walk_at "LN") ?_
 ·walk_at "I2"
  obtain ⟨b, S, P, ow, gs, past, W, ws, rfl, hb, hW, ok, kE, k⟩ := h
  refine ⟨_, (AG (A2 (pcl T.d_check_many (Cu T) hr Ca (AA (pv 1) (AA AK AC))))
   (AD (AL (EI PySem.F.plainAttrs_str PySem.F.slot_str_join PySem.F.type_str_join Ed AN (AA (Aj Ee (Ar (AA AN AC)) (Da rfl (⟨rfl, by decide +kernel, by decide +kernel, by decide +kernel, rfl, by decide +kernel, by with_unfolding_all rfl, by rfl, by rfl, by rfl⟩ : Ab _ _ "gate" [] []) (Cj (Dl (pv 0) T.cl_Beach T.d_Beach_gates.mt (CY T) (hr.mono (by decide)) T.d_Beach_gates.b .nil At)) (fun _ _ _ _  => (Lx (K := K) rfl PySem.F.plainAttrs_str PySem.F.slot_str_join PySem.F.type_str_join (KJ (K := K) rfl) AN (AA (pcl T.d_number_words (CM T) hr At (AA (pv 0) AC)) AC))) (fun _ _ _ _ => Ch))) AC))))), ?_⟩
  obtain ⟨dx, eb⟩ := hb.at_
  walk_at "Q"
  delta tBM Ey
  refine ⟨W, ws, 0, rfl, hW, ok, fun h => kE (fun z => h (by rw [z]; rfl)) _ (AH.refl _), fun h => ?_⟩
  have h0 : ws = [] := List.length_eq_zero_iff.mp (by lia)
  have k := k h0
  walk_at "NX"
  delta tBM Ey EH
  refine ⟨tyS, by decide, fun D1 H1 n1 s1 e1 => ⟨dx, _, s1.get eb, rfl, b, S, P, ow, gs, past, rfl, hb.same s1, fun H2 D2 as n2 s2 e2 ga => ⟨_, rfl, ⟨_, SqL.of e2⟩, fun D nD => ?_⟩⟩⟩
  have l40 := hb.std.len
  have okg := hb.std.ok
  have lw : ∀ g ∈ gs, (Ai g).length ≤ 128 := fun g hg => by
   have o := okg g hg
   have := CB (Dw ⟨o.p0, o.p1⟩)
   have := CB (n := g.f) (Dw ⟨o.f0, Int.le_trans o.fh o.h1⟩)
   have := CB (n := g.h) (Dw ⟨Int.le_trans o.f0 o.fh, o.h1⟩)
   show (dec g.p ++ ([58] ++ (dec g.f ++ ([58] ++ dec g.h)))).length ≤ _
   simp only [List.length_append, List.length_cons, List.length_nil]
   lia
  refine Fx (F := fun _ v g => v = V.str (tx (Ai g))) (fun _ _ _ _ _ h => h) (fun _ _ _ _ _ _ h => h) (SqL.of e2) ga nD (by lia) ?_ ?_
  ·intro v g H3 R hg s3 ev hR
   have o := okg g hg
   have b1 := Dw ⟨o.p0, o.p1⟩
   have b2 := Dw (n := g.f) ⟨o.f0, Int.le_trans o.fh o.h1⟩
   have b3 := Dw (n := g.h) ⟨Int.le_trans o.f0 o.fh, o.h1⟩
   delta tBM Ey
   refine ⟨tyS, v, [g.p, g.f, g.h], rfl, .inr (SqT.of ev), fun n hn => ?_, by show 3 ≤ 100000; decide, fun D3 H4 n4 s4 e4 => ⟨[58], LX, _, rfl, [dec g.p, dec g.f, dec g.h], SqL.of e4, ?_, hR _ _ s4 rfl⟩⟩
   ·simp only [List.mem_cons, List.not_mem_nil, or_false] at hn
    rcases hn with rfl | rfl | rfl <;> assumption
   ·have := CB b1
    have := CB b2
    have := CB b3
    simp only [List.map_cons, List.map_nil, List.sum_cons, List.sum_nil, List.length_cons, List.length_nil]
    lia
  ·intro H3 ys s3 e3 pr
   have ey : ys = tvs (gs.map Ai) := Du pr
   subst ey
   refine ⟨_, s3.get (s2.get e1), _, e3, by rw [List.length_map, List.length_map, PySem.sizeLine_eq]; show 1 + _ ≤ _; lia, fun D4 H4 n4 s4 e4 => ⟨[32], KH, [103, 97, 116, 101, 115] :: gs.map Ai, SqL.of (by rw [GH] at e4; exact e4), ?_, k _ (s1.trans (s2.trans (s3.trans s4)))⟩⟩
   have h1 : ((gs.map Ai).map List.length).sum ≤ 128 * ((gs.map Ai).map List.length).length := Hj fun x hx => by
    obtain ⟨y, hy, rfl⟩ := List.mem_map.mp hx
    obtain ⟨g, hg, rfl⟩ := List.mem_map.mp hy
    exact lw g hg
   rw [List.length_map, List.length_map] at h1
   show 5 + ((gs.map Ai).map List.length).sum + ((gs.map Ai).length + 1) * 1 ≤ _
   rw [List.length_map]
   lia
theorem CZ : AM ["beach", "row", "words", "asked"] ["beach", "row"] (AE C8) := by walk_at "SC"
noncomputable abbrev OkL (l : List Nat) : Prop := (∀ c ∈ l, c < 128) ∧ l.length ≤ 100000
noncomputable def tx2 (s : String) : List Nat := (Str.ofString s).cps.toList
noncomputable def EO {w : World} {K : PySem.W.Frag} {mg : Str → Option Value} (T : Tx w K mg) : Sp := fun vs H Q E => ∃ (b : Addr) (l w : List Nat) (ws : List (List Nat)), vs = [.ref b, .str (tx l)] ∧ OkL l ∧ Bi 32 l = w :: ws ∧ ((w = tx2 "put" ∧ ∀ W H1, H W = none → AH H H1 → H1 W = some (.lst (tvs ws)) → B9 T [.ref b, .ref W] H1 Q E) ∨ (w = tx2 "back" ∧ ∀ W H1, H W = none → AH H H1 → H1 W = some (.lst (tvs ws)) → Bl T [.ref b, .ref W] H1 Q E) ∨ (w = tx2 "gates" ∧ ∀ W H1, H W = none → AH H H1 → H1 W = some (.lst (tvs ws)) → BK T [.ref b, .ref W] H1 Q E) ∨ (E7.lookup (tx w) = none ∧ ∀ H1, AH H H1 → E (T.err .badrow) none H1))
theorem G7 (T : Tx w K mg) : Ad P w K mg base (CXE P w) 6 T.f_row_told T.fd_row_told ["beach", "row"] (EO T) := by
 refine T.d_row_told.F.okX CZ (fun _ _ _ _ h => by walk_at "LN") ?_
 ·walk_at "I2"
  obtain ⟨b, l, w, ws, rfl, ok, hc, k⟩ := h
  refine ⟨_, (AG (pst 2 CZ (EI PySem.F.plainAttrs_str PySem.F.slot_str_split PySem.F.type_str_split KA (pv 1) (AA AN AC)))
   (AG (pst 3 CZ (K9 T.rows (by rfl) T.m_ROWS (pxi AY (pv 2) AK) ⟨rfl, rfl, rfl, rfl⟩))
   (AG (Au (ptc Nf (pv 3) PM) (AD (Ax C5 rfl T.e_BadRow (by rfl) T.m_BadRow (AA AN AC)))
    AX)
   (AD (AL (KQ (k := 5) (.cons T.d_put_row (Hg T) (.cons T.d_back_row (G0 T) (.cons T.d_gates_row (GM T) .nil))) (hr.mono (by decide)) Ca (pv 3) (AA (pv 0) (AA (Et G9 (pv 2) (Gc AK) F8) AC)))))))), ?_⟩
  walk_at "Q"
  delta tBM KP
  refine ⟨tyS, l, rfl, 32, KH, by have := ok.2; rw [PySem.sizeLine_eq]; lia, fun L H1 n1 s1 e1 => ?_⟩
  rw [hc] at e1
  walk_at "NX"
  have nd : ∀ {c : Addr}, H1 c = none → H c = none := fun n => s1.free n
  walk_at "Q"
  delta LQ
  refine ⟨_, SqL.of e1, _, Gg (j := 0) rfl, tx w, rfl, ?_⟩
  have go : ∀ (f : Addr) (sp : Sp), (f, sp) ∈ [(T.f_put_row, B9 T), (T.f_back_row, Bl T), (T.f_gates_row, BK T)] → (∀ W H1, H W = none → AH H H1 → H1 W = some (.lst (tvs ws)) → sp [.ref b, .ref W] H1 Q E) → M [some (V.ref b), some (V.str (tx l)), some (V.ref L), some (V.ref f)] H1 := fun f sp hm kk => by
   refine hM _ _ ?_
   clear hM M
   walk_at "Q"
   delta Hr
   rw [if_neg (fun z => by cases (of_decide_eq_true z))]
   walk_at "NX"
   delta Hr
   exact ⟨_, hm, rfl, _, SqL.of e1, fun W H2 n2 s2 e2 => kk W H2 (s1.free n2) (s1.trans s2) (by rw [e2]; exact congrArg (fun z => some (HO.lst z)) (Ig (i := 1)))⟩
  rcases k with ⟨rfl, k⟩ | ⟨rfl, k⟩ | ⟨rfl, k⟩ | ⟨hn, k⟩
  ·rw [show E7.lookup (tx (tx2 "put")) = some "put_row" by decide +kernel]
   exact ⟨_, T.d_put_row.m, go _ (B9 T) (by simp) k⟩
  ·rw [show E7.lookup (tx (tx2 "back")) = some "back_row" by decide +kernel]
   exact ⟨_, T.d_back_row.m, go _ (Bl T) (by simp) k⟩
  ·rw [show E7.lookup (tx (tx2 "gates")) = some "gates_row" by decide +kernel]
   exact ⟨_, T.d_gates_row.m, go _ (BK T) (by simp) k⟩
  ·rw [hn]
   refine hM _ _ ?_
   clear go hM M
   walk_at "Q"
   walk_at "RD"
   exact ⟨by decide, k _ s1⟩
theorem FK : AM ["beach", "row"] ["beach", "row"] (AE CF) := by walk_at "SC"
noncomputable def refT : Err → Str
 | .badrow => "refused: bad row"
 | .nogate => "refused: no gate"
 | .taken => "refused: taken"
 | .upside => "refused: upside down"
 | .bounds => "refused: out of bounds"
 | .full => "refused: beach full"
 | .deeds => "refused: deeds full"
 | .nothing => "refused: nothing back"
 | .badlist => "refused: bad list"
 | .few => "refused: too few"
 | .size => "refused: wrong size"
 | .badthrow => "refused: bad throw"
noncomputable def C4 {w : World} {K : PySem.W.Frag} {mg : Str → Option Value} (T : Tx w K mg) : Sp := fun vs H Q _ => ∃ (b : Addr) (x : Str), vs = [.ref b, .str x] ∧ ∀ E : XK, (∀ e H', Q (.str (refT e)) H' → E (T.err e) none H') → EO T vs H Q E
theorem FS (T : Tx w K mg) : Ad P w K mg base CX0 7 T.f_row_answer T.fd_row_answer ["beach", "row"] (C4 T) := by
 refine T.d_row_answer.F.ok FK (fun _ _ _ _ h => by walk_at "LN") ?_
 ·walk_at "I2"
  obtain ⟨b, x, rfl, k⟩ := h
  refine ⟨_, (AD (OQ rfl rfl (fun _ _ _ hp => (AD (AL (G4 (G7 T) (hr.mono (by decide)) (by rfl) T.d_row_told.m T.d_row_told.F.kp T.d_row_told.b .nil hp (AA (pv 0) (AA (pv 1) AC))))))
    (PHs.cons (by rfl) T.m_BadRow (by decide) (fun _ _ => (AD (AL AN))) (PHs.cons (by rfl) T.m_NoGate (by decide) (fun _ _ => (AD (AL AN))) (PHs.cons (by rfl) T.m_Taken (by decide) (fun _ _ => (AD (AL AN))) (PHs.cons (by rfl) T.m_UpsideDown (by decide) (fun _ _ => (AD (AL AN))) (PHs.cons (by rfl) T.m_OutOfBounds (by decide) (fun _ _ => (AD (AL AN))) (PHs.cons (by rfl) T.m_BeachFull (by decide) (fun _ _ => (AD (AL AN))) (PHs.cons (by rfl) T.m_DeedsFull (by decide) (fun _ _ => (AD (AL AN))) (PHs.cons (by rfl) T.m_NothingBack (by decide) (fun _ _ => (AD (AL AN))) (PHs.cons (by rfl) T.m_BadList (by decide) (fun _ _ => (AD (AL AN))) (PHs.cons (by rfl) T.m_TooFew (by decide) (fun _ _ => (AD (AL AN))) (PHs.cons (by rfl) T.m_WrongSize (by decide) (fun _ _ => (AD (AL AN))) (PHs.cons (by rfl) T.m_BadThrow (by decide) (fun _ _ => (AD (AL AN))) PHs.nil)))))))))))))), ?_⟩
  delta tTry Hk
  refine k _ fun e H' hq => ?_
  cases e
  case badrow => exact Al T.xs 0 rfl rfl rfl hq
  case nogate => exact Al T.xs 1 rfl rfl rfl hq
  case taken => exact Al T.xs 2 rfl rfl rfl hq
  case upside => exact Al T.xs 3 rfl rfl rfl hq
  case bounds => exact Al T.xs 4 rfl rfl rfl hq
  case full => exact Al T.xs 5 rfl rfl rfl hq
  case deeds => exact Al T.xs 6 rfl rfl rfl hq
  case nothing => exact Al T.xs 7 rfl rfl rfl hq
  case badlist => exact Al T.xs 8 rfl rfl rfl hq
  case few => exact Al T.xs 9 rfl rfl rfl hq
  case size => exact Al T.xs 10 rfl rfl rfl hq
  case badthrow => exact Al T.xs 11 rfl rfl rfl hq
theorem Gf : AM ["self"] ["self"] (AE CT) := by walk_at "SC"
noncomputable def Dc {w : World} {K : PySem.W.Frag} {mg : Str → Option Value} (T : Tx w K mg) : Sp := fun vs H Q _ => ∃ (d dx : Addr), vs = [.ref d] ∧ H d = some (.ins T.C_Desk dx []) ∧ ∀ H' b S P, H b = none → H S = none → H P = none → (∀ a u, a ≠ d → H a = some u → H' a = some u) → H' d = some (.ins T.C_Desk dx [("beach", .ref b)]) → Bch T.C_Beach H' b S P [S, P] [] [] → Q .non H'
theorem IF {w : World} {K : PySem.W.Frag} {mg : Str → Option Value} {T : Tx w K mg} {H : Hp} {Q : Addr → Hp → Prop} {E : XK} (k : ∀ d dx b S P H', H d = none → H b = none → H S = none → H P = none → AH H H' → H' d = some (.ins T.C_Desk dx [("beach", .ref b)]) → Bch T.C_Beach H' b S P [S, P] [] [] → Q d H') :
  ∀ x dx, H x = none → H dx = none → dx ≠ x → Dc T [V.ref x] (upd (upd H dx (.own x)) x (.ins T.C_Desk dx [])) (fun v H2 => v = V.non ∧ Q x H2) E := fun x dx nx nd hd => by
 have fr : ∀ {c : Addr}, upd (upd H dx (.own x)) x (.ins T.C_Desk dx []) c = none → H c = none := fun {c} n => by
  have h1 : c ≠ x := fun z => by rw [z, AI] at n; cases n
  have h2 : c ≠ dx := fun z => by rw [AF h1, z, AI] at n; cases n
  rwa [AF h1, AF h2] at n
 refine ⟨x, dx, rfl, AI, fun H' b S P nb nS nP kp eb hb => ⟨rfl, k x dx b S P H' nx (fr nb) (fr nS) (fr nP) (fun a u e => kp a u (AB e nx) ?_) eb hb⟩⟩
 rw [AF (AB e nx), AF (AB e nd)]
 exact e
theorem DH (T : Tx w K mg) : Ad P w K mg base CX0 3 T.f_Desk_init T.fd_Desk_init ["self"] (Dc T) := by
 refine T.d_Desk_init.F.ok Gf (fun _ _ _ _ h => by walk_at "LN") ?_
 ·walk_at "I2"
  obtain ⟨d, dx, rfl, ed, k⟩ := h
  refine ⟨_, (AD (EC (pv 0) (CP T.mk_Beach (By T) (hr.mono (by decide)) (by rfl) T.m_Beach T.d_Beach_init.b .nil At) rfl)), ?_⟩
  walk_at "RD"
  refine FD fun b S P H1 nb nS nP s1 hb => ?_
  refine ⟨_, _, _, s1.get ed, T.cl_Desk, T.n_Desk_beach, by decide, ?_⟩
  have bd : b ≠ d := fun z => by rw [z, ed] at nb; cases nb
  have Sd : S ≠ d := fun z => by rw [z, ed] at nS; cases nS
  have Pd : P ≠ d := fun z => by rw [z, ed] at nP; cases nP
  refine k _ b S P nb nS nP (fun a u h1 h2 => (AF h1).trans (s1 a u h2)) AI (hb.keep fun a u hc e => (AF ?_).trans e)
  rcases hc with rfl | hc | ⟨xs, rfl⟩
  ·exact bd
  ·simp only [List.mem_cons, List.not_mem_nil, or_false] at hc
   rcases hc with rfl | rfl <;> assumption
  ·intro z; rw [z, s1.get ed] at e; cases e
theorem E1 : AM ["self", "row"] ["self", "row"] (AE Bv) := by walk_at "SC"
noncomputable def FI {w : World} {K : PySem.W.Frag} {mg : Str → Option Value} (T : Tx w K mg) : Sp := fun vs H Q E => ∃ (d dx b : Addr) (x : Str), vs = [.ref d, .str x] ∧ H d = some (.ins T.C_Desk dx [("beach", .ref b)]) ∧ C4 T [.ref b, .str x] H Q E
theorem Bb (T : Tx w K mg) : Ad P w K mg base CX0 8 T.f_Desk_answer T.fd_Desk_answer ["self", "row"] (FI T) := by
 refine T.d_Desk_answer.F.ok E1 (fun _ _ _ _ h => by walk_at "LN") ?_
 ·walk_at "I2"
  obtain ⟨d, dx, b, x, rfl, ed, k⟩ := h
  refine ⟨_, (AD (AL (pcl T.d_row_answer (FS T) hr At (AA (BH (pv 0) rfl) (AA (pv 1) AC))))), ?_⟩
  walk_at "RD"
  exact ⟨_, dx, _, ed, T.cl_Desk, T.n_Desk_beach, _, rfl, k⟩
theorem HV : AM ["_law_found"] ["_law_found"] (AE EF) := by walk_at "SC"
noncomputable def E9 : Sp := fun vs H Q _ => ∃ i : Int, vs = [.int i] ∧ Q (.bl true) H
theorem Hd (T : Tx w K mg) : Ad P w K mg base CX0 1 T.f_w_whole T.fd_w_whole ["_law_found"] E9 := by
 refine T.d_w_whole.F.ok HV (fun _ _ _ _ h => by walk_at "LN") ?_
 ·walk_at "I2"
  obtain ⟨i, rfl, hq⟩ := h
  refine ⟨_, (AD (AL (Ov (AO BD (by rfl) T.z_isinstance Aw (AA (pv 0) (AA (Dn (v := .ty "int") (by rfl) T.z_int KC rfl) AC))) (Of (Na (AO BD (by rfl) T.z_isinstance Aw (AA (pv 0) (AA (Dn (v := .ty "bool") (by rfl) T.z_bool Ky rfl) AC)))))))), ?_⟩
  walk_at "RD"
  refine ⟨_, .int i, true, rfl, ?_⟩
  rw [if_pos rfl]
  exact ⟨_, .int i, false, rfl, hq⟩
theorem Di : AM ["_law_found", "_law_due", "_law_k"] ["_law_found", "_law_due"] (AE CS) := by walk_at "SC"
noncomputable def DN (K : PySem.W.Frag) : Sp := fun vs H Q _ => ∃ (x y : Addr) (xs : List Int), vs = [.ref x, .ref y] ∧ H x = some (.tup (xs.map V.int)) ∧ SqT K H y (xs.map V.int) ∧ xs.length ≤ 1000 ∧ Q (.bl true) H
noncomputable def W_num (x y : Addr) (H : Hp) : Nat → St → Hp → Prop := fun i σ H' => ∃ k, σ = [some (.ref x), some (.ref y), k] ∧ H' = H
theorem Gk (T : Tx w K mg) : Ad P w K mg base CX0 2 T.f_w_numbers T.fd_w_numbers ["_law_found", "_law_due"] (DN K) := by
 refine T.d_w_numbers.F.ok Di (fun _ _ _ _ h => by walk_at "LN") ?_
 ·walk_at "I2"
  obtain ⟨x, y, xs, rfl, ex, ey, hl, k⟩ := h
  refine ⟨_, (AG (Au (Eh (C7 (Bt (AO BD (by rfl) T.z_isinstance Aw (AA (pv 0) (AA (Dn (v := .ty "tuple") (by rfl) T.z_tuple Js rfl) AC))))) (DD (ptc Fq (AO AR (by rfl) T.z_len Av (AA (pv 0) AC)) (AO AR (by rfl) T.z_len Av (AA (pv 1) AC))))).pt (AD (AL C1))
    AX)
   (AG (Ex PassesOwn.never rfl (Ci (by rfl) T.z_range (AA (AO AR (by rfl) T.z_len Av (AA (pv 1) AC)) AC)) (pgn 2 Di)
    (AD (Au (Eh (C7 (Bt (pcl T.d_w_whole (Hd T) hr At (AA (pxi BJ (pv 0) (pv 2)) AC)))) (DD (ptc Fq (pxi BJ (pv 0) (pv 2)) (pxi BJ (pv 1) (pv 2))))).pt (AD (AL C1))
      AX)))
   (AD (AL C1)))), ?_⟩
  walk_at "RD"
  walk_at "AUTO"
  refine ⟨_, rfl, _, rfl, _, Or.inr ey, ((xs.map V.int).length : Int), rfl, by rw [List.length_map]; lia, by rw [List.length_map]; lia, Cf (n := (((xs.map V.int).length : Nat) : Int).toNat) (W_num x y H) ⟨none, rfl, rfl⟩ ?_ ?_⟩
  ·rintro i σ H1 hi ⟨k', rfl, rfl⟩
   rw [List.length_map] at hi
   delta E9
   walk_at "AUTO"
   exact ⟨_, rfl, rfl⟩
  ·rintro σ H1 ⟨k', rfl, rfl⟩
   walk_at "RD"
   exact k
theorem Fk : AM ["_law_found", "_law_due", "_law_k"] ["_law_found", "_law_due"] (AE Em) := by walk_at "SC"
noncomputable def Ii (K : PySem.W.Frag) : Sp := fun vs H Q _ => ∃ (x y : Addr) (as bs : List Addr) (gs : List G), vs = [.ref x, .ref y] ∧ H x = some (.lst (as.map V.ref)) ∧ SqL K H y (bs.map V.ref) ∧ Aa H as gs ∧ Aa H bs gs ∧ gs.length ≤ 1000 ∧ Q (.bl true) H
noncomputable def W_row (x y : Addr) (H : Hp) : Nat → St → Hp → Prop := fun i σ H' => ∃ k, σ = [some (.ref x), some (.ref y), k] ∧ H' = H
theorem Im (T : Tx w K mg) : Ad P w K mg base CX0 3 T.f_w_rows T.fd_w_rows ["_law_found", "_law_due"] (Ii K) := by
 refine T.d_w_rows.F.ok Fk (fun _ _ _ _ h => by walk_at "LN") ?_
 ·walk_at "I2"
  obtain ⟨x, y, as, bs, gs, rfl, ex, ey, ga, gb, hl, k⟩ := h
  refine ⟨_, (AG (Au (Eh (C7 (Bt (AO BD (by rfl) T.z_isinstance Aw (AA (pv 0) (AA (Dn (v := .ty "list") (by rfl) T.z_list Ib rfl) AC))))) (DD (ptc Fq (AO AR (by rfl) T.z_len Av (AA (pv 0) AC)) (AO AR (by rfl) T.z_len Av (AA (pv 1) AC))))).pt (AD (AL C1))
    AX)
   (AG (Ex PassesOwn.never rfl (Ci (by rfl) T.z_range (AA (AO AR (by rfl) T.z_len Av (AA (pv 1) AC)) AC)) (pgn 2 Fk)
    (AD (Au (C7 (Bt (pcl T.d_w_numbers (Gk T) hr At (AA (pxi AY (pv 0) (pv 2)) (AA (pxi AY (pv 1) (pv 2)) AC))))) (AD (AL C1))
      AX)))
   (AD (AL C1)))), ?_⟩
  have la := ga.len
  have lb := gb.len
  walk_at "RD"
  walk_at "AUTO"
  refine ⟨_, rfl, _, rfl, _, Or.inl ey, ((bs.map V.ref).length : Int), rfl, by rw [List.length_map]; lia, by rw [List.length_map]; lia, Cf (n := (((bs.map V.ref).length : Nat) : Int).toNat) (W_row x y H) ⟨none, rfl, rfl⟩ ?_ ?_⟩
  ·rintro i σ H1 hi ⟨k', rfl, rfl⟩
   rw [List.length_map] at hi
   have hig : i < gs.length := by lia
   obtain ⟨a1, ha1, e1⟩ := ga.get (List.getElem?_eq_getElem hig)
   obtain ⟨b1, hb1, e2⟩ := gb.get (List.getElem?_eq_getElem hig)
   have h1 : atI (as.map V.ref) (0 + (i : Int)) = some (V.ref a1) := by rw [Int.zero_add]; exact Ef ha1
   have h2 : atI (bs.map V.ref) (0 + (i : Int)) = some (V.ref b1) := by rw [Int.zero_add]; exact Ef hb1
   delta DN
   refine ⟨_, SqL.of ex, _, h1, _, ey, _, h2, _, rfl, _, rfl, [gs[i].p, gs[i].f, gs[i].h], e1, SqT.of e2, (by show 3 ≤ 1000; decide), ?_⟩
   exact ⟨_, rfl, rfl⟩
  ·rintro σ H1 ⟨k', rfl, rfl⟩
   walk_at "RD"
   exact k
theorem Hb : AM ["_law_row"] ["_law_row"] (AE Dr) := by walk_at "SC"
theorem Ih {s y : List Nat} {c : Nat} : ∀ {r : List (List Nat)}, A3 s ((c :: y) :: r) = c :: A3 s (y :: r)
 | [] => rfl
 | z :: r => by rw [A5 (ys := z :: r) (by simp), A5 (ys := z :: r) (by simp)]; rfl
theorem HA : ∀ {ys : List (List Nat)} {a : List Nat}, A3 [] (a :: ys.map (32 :: ·)) = A3 [32] (a :: ys)
 | [], _ => rfl
 | y :: r, a => by
  rw [List.map_cons, A5 (ys := (32 :: y) :: r.map _) (by simp), A5 (s := [32]) (ys := y :: r) (by simp), HA, Ih]
  rfl
noncomputable def HN (K : PySem.W.Frag) : Sp := fun vs H Q _ => ∃ (l : Addr) (as : List Addr) (gs : List G), vs = [.ref l] ∧ SqL K H l (as.map V.ref) ∧ Aa H as gs ∧ gs.length ≤ 40 ∧ (∀ g ∈ gs, OkG g) ∧ ∀ H', AH H H' → Q (.str (tx (Hy gs))) H'
theorem HZ (T : Tx w K mg) : Ad P w K mg base CX0 1 T.f_w_shown T.fd_w_shown ["_law_row"] (HN K) := by
 refine T.d_w_shown.F.ok Hb (fun _ _ _ _ h => by walk_at "LN") ?_
 ·walk_at "I2"
  obtain ⟨l, as, gs, rfl, hl, ga, l40, okg, k⟩ := h
  refine ⟨_, (AD (AL (EI PySem.F.plainAttrs_str PySem.F.slot_str_join PySem.F.type_str_join Ed AN (AA (Aj Ee (Ar (AA AN AC)) (Da rfl (⟨rfl, by decide +kernel, by decide +kernel, by decide +kernel, rfl, by decide +kernel, by with_unfolding_all rfl, by rfl, by rfl, by rfl⟩ : Ab _ _ "_law_gate" [] []) (Cj (pv 0)) (fun _ _ _ _  => (Aj Ah (Aj Ah (Aj Ah (Aj Ah (Aj Ah AN (Ap Ak (by rfl) T.z_str CN (AA (pxi (DS (K := K) rfl) (pv 0) AK) AC))) AN) (Ap Ak (by rfl) T.z_str CN (AA (pxi (DS (K := K) rfl) (pv 0) AK) AC))) AN) (Ap Ak (by rfl) T.z_str CN (AA (pxi (DS (K := K) rfl) (pv 0) AK) AC)))) (fun _ _ _ _ => Ch))) AC)))), ?_⟩
  delta tBM Ey EH
  refine ⟨tyS, by decide, fun D1 H1 n1 s1 e1 => ⟨⟨_, s1.seq hl⟩, fun D nD => ?_⟩⟩
  refine Fx (F := fun _ v g => v = V.str (tx (32 :: Ai g))) (fun _ _ _ _ _ h => h) (fun _ _ _ _ _ _ h => h) (s1.seq hl) (ga.same s1) nD (by lia) ?_ ?_
  ·intro v g H3 R hg s3 ev hR
   have o := okg g hg
   have b1 := Dw ⟨o.p0, o.p1⟩
   have b2 := Dw (n := g.f) ⟨o.f0, Int.le_trans o.fh o.h1⟩
   have b3 := Dw (n := g.h) ⟨Int.le_trans o.f0 o.fh, o.h1⟩
   have d1 := CB b1
   have d2 := CB b2
   have d3 := CB b3
   have lz : ∀ z : List Nat, z.length ≤ 1000 → (tx z).length ≤ sizeLine := fun z h => by rw [AU, PySem.sizeLine_eq]; lia
   walk_at "RD"
   refine ⟨_, SqT.of ev, _, rfl, _, rfl, Gu b1, ?_⟩
   rw [A9, KH, LX, Bd, Bd, AU, AU, AU, AU, PySem.sizeLine_eq]
   simp only [List.length_append, List.length_cons, List.length_nil]
   refine ⟨by lia, by lia, _, SqT.of ev, _, rfl, _, rfl, Gu b2, ?_⟩
   rw [A9, Bd, Bd, AU, AU, AU]
   simp only [List.length_append, List.length_cons, List.length_nil]
   refine ⟨by lia, by lia, _, SqT.of ev, _, rfl, _, rfl, Gu b3, ?_⟩
   rw [A9, Bd, AU, AU]
   simp only [List.length_append, List.length_cons, List.length_nil]
   refine ⟨by lia, hR _ _ (AH.refl _) (congrArg (fun z => V.str (tx z)) ?_)⟩
   simp only [List.append_assoc, List.singleton_append, List.cons_append, List.nil_append]
   rfl
  ·intro H3 ys s3 e3 pr
   have ey : ys = tvs (gs.map fun g => 32 :: Ai g) := Du pr
   subst ey
   have lw : ∀ g ∈ gs, (Ai g).length ≤ 128 := fun g hg => by
    have o := okg g hg
    have := CB (Dw ⟨o.p0, o.p1⟩)
    have := CB (n := g.f) (Dw ⟨o.f0, Int.le_trans o.fh o.h1⟩)
    have := CB (n := g.h) (Dw ⟨Int.le_trans o.f0 o.fh, o.h1⟩)
    show (dec g.p ++ ([58] ++ (dec g.f ++ ([58] ++ dec g.h)))).length ≤ _
    simp only [List.length_append, List.length_cons, List.length_nil]
    lia
   refine ⟨_, s3.get e1, _, e3, by rw [List.length_map, List.length_map, PySem.sizeLine_eq]; show 1 + _ ≤ _; lia, fun D4 H4 n4 s4 e4 => ⟨[], rfl, [103, 97, 116, 101, 115] :: gs.map (fun g => 32 :: Ai g), SqL.of (by rw [GH] at e4; exact e4), ?_, ?_⟩⟩
   ·have h1 : ((gs.map fun g => 32 :: Ai g).map List.length).sum ≤ 129 * ((gs.map fun g => 32 :: Ai g).map List.length).length := Hj fun x hx => by
     obtain ⟨y, hy, rfl⟩ := List.mem_map.mp hx
     obtain ⟨g, hg, rfl⟩ := List.mem_map.mp hy
     have := lw g hg
     rw [List.length_cons]
     lia
    rw [List.length_map, List.length_map] at h1
    show 5 + ((gs.map fun g => 32 :: Ai g).map List.length).sum + ((gs.map fun g => 32 :: Ai g).length + 1) * 0 ≤ _
    lia
   ·have e : A3 [] ([103, 97, 116, 101, 115] :: gs.map (fun g => 32 :: Ai g)) = Hy gs := by
     rw [show (gs.map fun g => 32 :: Ai g) = (gs.map Ai).map (32 :: ·) by rw [List.map_map]; rfl, HA]; rfl
    rw [e]
    exact k _ (s1.trans (s3.trans s4))
theorem BG : AM ["_law_script", "_law_beaches", "_law_desks", "_law_kept", "_law_k", "_law_cell", "_law_side", "_law_foot", "_law_gate", "_law_j", "_law_told"] ["_law_script"] (AE IW) := by walk_at "SC"
theorem o_put : Str.ofString "put " = tx [112, 117, 116, 32] := by rfl
theorem OG : Str.ofString "back" = tx [98, 97, 99, 107] := by rfl
theorem G5 {f : Nat → Addr} {j : Nat} (h : j < 2) : atI [V.ref (f 0), V.ref (f 1)] (j : Int) = some (V.ref (f j)) := by
 match j, h with
 | 0, _ => rfl
 | 1, _ => rfl
noncomputable def HR (K : PySem.W.Frag) : Sp := fun vs H Q _ => ∃ (a : Addr) (ns : List Int), vs = [.ref a] ∧ SqL K H a (ns.map V.int) ∧ ns.length ≤ 63 ∧ ∀ H', Q (.bl true) H'
theorem PP (T : Tx w K mg) : Ad P w K mg base CX0 9 T.f_law T.fd_law ["_law_script"] (HR K) := by
 refine T.d_law.F.ok BG (fun _ _ _ _ h => by walk_at "LN") ?_
 ·walk_at "I2"
  obtain ⟨a, ns, rfl, hS, hl, k⟩ := h
  refine ⟨_, (AG (pst 1 BG (Ar (AA (CP T.mk_Beach (By T) (hr.mono (by decide)) (by rfl) T.m_Beach T.d_Beach_init.b .nil At) (AA (CP T.mk_Beach (By T) (hr.mono (by decide)) (by rfl) T.m_Beach T.d_Beach_init.b .nil At) AC))))
   (AG (pst 2 BG (Ar (AA (CP T.mk_Desk (DH T) (hr.mono (by decide)) (by rfl) T.m_Desk T.d_Desk_init.b .nil At) (AA (CP T.mk_Desk (DH T) (hr.mono (by decide)) (by rfl) T.m_Desk T.d_Desk_init.b .nil At) AC))))
   (AG (pst 3 BG (Ar (AA (Ar AC) (AA (Ar AC) AC))))
   (AG (Ex PassesOwn.never rfl (Ci (by rfl) T.z_range (AA (AO (JM (by rfl)) (by rfl) T.z_max PX (AA AK (AA (AO (JL (by rfl)) (by rfl) T.z_min OW (AA AK (AA (AO AR (by rfl) T.z_len Av (AA (pv 0) AC)) AC))) AC))) AC)) (pgn 4 BG)
    (AG (pst 5 BG (pxi AY (Ar (AA AK (AA AK (AA AK AC)))) (Aj FB (pv 4) AK)))
     (AG (Au (ptc IT (pv 4) (AO AR (by rfl) T.z_len Av (AA (pv 0) AC))) (AD (pst 5 BG (pxi AY (pv 0) (pv 4))))
      AX)
     (AG (pst 6 BG (Aj FB (pv 5) AK))
     (AG (pst 7 BG (Aj Ht (Aj FB (Aj Gn (pv 5) AK) AK) AK))
     (AG (pst 8 BG (IU (AA (Aj Ht (pv 4) AK) (AA (pv 7) (AA (Aj OI (pv 7) (Aj FB (Aj Gn (pv 5) AK) AK)) AC)))))
     (AG (Au (M3 (ptc Jj (Aj FB (Aj Gn (pv 5) AK) AK) AK) (K2 (ptc (LH (Nat.lt_of_succ_lt hu)) (pxi AY (pv 3) (pv 6)) (Ar AC)))).pt (AG (A2 (OU PySem.F.plainAttrs_list PySem.F.slot_list_pop PySem.F.type_list_pop PC (pxi AY (pv 3) (pv 6))))
       (AG (A2 (Dl (pxi AY (pv 1) (pv 6)) T.cl_Beach T.d_Beach_back.mt (Bs T) (hr.mono (by decide)) T.d_Beach_back.bd.choose_spec.2 T.d_Beach_back.bd.choose_spec.1 KB))
       (AD (A2 (Bm (pxi AY (pv 2) (pv 6)) T.cl_Desk T.d_Desk_answer.mt (Bb T) (hr.mono (by decide)) T.d_Desk_answer.b .nil At (AA AN AC))))))
      (AG (A2 (Fm (pxi AY (pv 3) (pv 6)) (pv 8)))
       (AG (A2 (Bm (pxi AY (pv 1) (pv 6)) T.cl_Beach T.d_Beach_put.mt (Df T) (hr.mono (by decide)) T.d_Beach_put.b .nil KB (AA (pxi BJ (pv 8) AK) (AA (pxi BJ (pv 8) AK) (AA (pxi BJ (pv 8) AK) AC)))))
       (AD (A2 (Bm (pxi AY (pv 2) (pv 6)) T.cl_Desk T.d_Desk_answer.mt (Bb T) (hr.mono (by decide)) T.d_Desk_answer.b .nil At (AA (Aj Ah (Aj Ah (Aj Ah (Aj Ah (Aj Ah AN (Ap Ak (by rfl) T.z_str CN (AA (pxi BJ (pv 8) AK) AC))) AN) (Ap Ak (by rfl) T.z_str CN (AA (pxi BJ (pv 8) AK) AC))) AN) (Ap Ak (by rfl) T.z_str CN (AA (pxi BJ (pv 8) AK) AC))) AC)))))))
     (AD (Ex PassesOwn.never rfl (Ci (by rfl) T.z_range (AA AK AC)) (pgn 9 BG)
      (AG (Au (C7 (Bt (pcl T.d_w_rows (Im T) hr At (AA (Dl (pxi AY (pv 1) (pv 9)) T.cl_Beach T.d_Beach_gates.mt (CY T) (hr.mono (by decide)) T.d_Beach_gates.b .nil At) (AA (pxi AY (pv 3) (pv 9)) AC))))) (AD (AL C1))
        AX)
       (AG (pst 10 BG (Bm (pxi AY (pv 2) (pv 9)) T.cl_Desk T.d_Desk_answer.mt (Bb T) (hr.mono (by decide)) T.d_Desk_answer.b .nil At (AA AN AC)))
       (AD (Au (Eh (C7 (Bt (AO BD (by rfl) T.z_isinstance Aw (AA (pv 10) (AA (Dn (v := .ty "str") (by rfl) T.z_str CN rfl) AC))))) (DD (ptc Fq (pv 10) (pcl T.d_w_shown (HZ T) hr At (AA (pxi AY (pv 3) (pv 9)) AC))))).pt (AD (AL C1))
        AX)))))))))))))
   (AD (AL C1)))))), ?_⟩
  obtain ⟨scI, hI, rd⟩ : ∃ scI : List (Addr × HO), (∀ p ∈ scI, H p.1 = some p.2 ∧ ((∃ xs, p.2 = .lst xs) ∨ ∃ o v, p.2 = .frz o v)) ∧ ∀ H', (∀ p ∈ scI, H' p.1 = some p.2) → SqL K H' a (ns.map V.int) := by
   rcases hS with (h | ⟨o, h⟩) | h
   ·exact ⟨[(a, .lst (ns.map V.int))], fun p hp => (by rw [List.mem_singleton.mp hp]; exact ⟨h, .inl ⟨_, rfl⟩⟩), fun H' h' => .inl (.inl (h' _ (List.mem_singleton.mpr rfl)))⟩
   ·exact ⟨[(a, .frz o (.lst (ns.map V.int)))], fun p hp => (by rw [List.mem_singleton.mp hp]; exact ⟨h, .inr ⟨_, _, rfl⟩⟩), fun H' h' => .inl (.inr ⟨o, h' _ (List.mem_singleton.mpr rfl)⟩)⟩
   ·exact ⟨[], fun p hp => absurd hp (by simp), fun H' _ => .inr h⟩
  clear hS
  walk_at "Q"
  walk_at "RD"
  refine FD fun b0 S0 P0 H1 nb0 nS0 nP0 s1 hb0 => ?_
  refine FD fun b1 S1 P1 H2 nb1 nS1 nP1 s2 hb1 => ⟨by decide, fun LB H3 nLB s3 eLB => ?_⟩
  have f0 := Fam.nil (C := T.C_Beach) (H := H)
  have f1 := f0.push s1 nb0 nS0 nP0 hb0
  have f2 := (f1.push s2 nb1 nS1 nP1 hb1).same s3
  walk_at "NX"
  obtain ⟨_, aS0⟩ := hb0.lv S0 (by simp)
  obtain ⟨_, aP0⟩ := hb0.lv P0 (by simp)
  obtain ⟨_, aS1⟩ := hb1.lv S1 (by simp)
  obtain ⟨_, aP1⟩ := hb1.lv P1 (by simp)
  clear f0 f1 hb0 hb1
  walk_at "Q"
  walk_at "RD"
  refine IF fun d0 dx0 c0 S2 P2 H4 nd0 nc0 nS2 nP2 s4 ed0 hc0 => ?_
  refine IF fun d1 dx1 c1 S3 P3 H5 nd1 nc1 nS3 nP3 s5 ed1 hc1 => ⟨by decide, fun LD H6 nLD s6 eLD => ?_⟩
  have f3 := f2.push s4 nc0 nS2 nP2 hc0
  have f5 := f3.push s5 nc1 nS3 nP3 hc1
  have f4 := f5.same s6
  walk_at "NX"
  obtain ⟨_, aS2⟩ := hc0.lv S2 (by simp)
  obtain ⟨_, aP2⟩ := hc0.lv P2 (by simp)
  obtain ⟨_, aS3⟩ := hc1.lv S3 (by simp)
  obtain ⟨_, aP3⟩ := hc1.lv P3 (by simp)
  clear f2 f3 hc0 hc1
  walk_at "Q"
  walk_at "RD"
  refine ⟨by decide, fun K0 H7 nK0 s7 eK0 => ⟨by decide, fun K1 H8 nK1 s8 eK1 => ⟨by decide, fun LK H9 nLK s9 eLK => ?_⟩⟩⟩
  walk_at "NX"
  obtain ⟨L1, hL1⟩ : ∃ L1 : List (Addr × HO), L1 = [(LB, .lst [.ref b0, .ref b1]), (LD, .lst [.ref d0, .ref d1]), (LK, .lst [.ref K0, .ref K1]), (d0, .ins T.C_Desk dx0 [("beach", .ref c0)]), (d1, .ins T.C_Desk dx1 [("beach", .ref c1)])] := ⟨_, rfl⟩
  have s13 := s2.trans s3
  have s35 := s4.trans s5
  have s05 := s1.trans (s13.trans s35)
  have s79 := s7.trans (s8.trans s9)
  obtain ⟨b, S, P, ow, gs, past, f9, ⟨eb0, eb1, eb2, eb3⟩, ⟨eo0, eo1, eo2, eo3⟩, egs⟩ : ∃ b S P ow gs past, Fam T.C_Beach H9 4 b S P ow gs past ∧ (b 0 = b0 ∧ b 1 = b1 ∧ b 2 = c0 ∧ b 3 = c1) ∧ (ow 0 = [S0, P0] ∧ ow 1 = [S1, P1] ∧ ow 2 = [S2, P2] ∧ ow 3 = [S3, P3]) ∧ ∀ i, i < 4 → gs i = [] ∧ past i = [] :=
   ⟨_, _, _, _, _, _, f4.same s79, ⟨rfl, rfl, rfl, rfl⟩, ⟨rfl, rfl, rfl, rfl⟩, fun i hi => (by
    match i, hi with
    | 0, _ => exact ⟨rfl, rfl⟩
    | 1, _ => exact ⟨rfl, rfl⟩
    | 2, _ => exact ⟨rfl, rfl⟩
    | 3, _ => exact ⟨rfl, rfl⟩)⟩
  have off : ∀ x : Addr, x ≠ S0 → x ≠ P0 → x ≠ S1 → x ≠ P1 → x ≠ S2 → x ≠ P2 → x ≠ S3 → x ≠ P3 → ∀ i, i < 4 → x ∉ ow i := fun x h0 h1 h2 h3 h4 h5 h6 h7 i hi z => by
   match i, hi with
   | 0, _ => rw [eo0] at z; simp at z; exact z.elim h0 h1
   | 1, _ => rw [eo1] at z; simp at z; exact z.elim h2 h3
   | 2, _ => rw [eo2] at z; simp at z; exact z.elim h4 h5
   | 3, _ => rw [eo3] at z; simp at z; exact z.elim h6 h7
  have al5 : ∀ x : Addr, H5 x = none → ∀ i, i < 4 → x ∉ ow i := fun x n => off x (AB ((s13.trans s35).get aS0) n).symm (AB ((s13.trans s35).get aP0) n).symm (AB ((s3.trans s35).get aS1) n).symm (AB ((s3.trans s35).get aP1) n).symm (AB (s5.get aS2) n).symm (AB (s5.get aP2) n).symm (AB aS3 n).symm (AB aP3 n).symm
  obtain ⟨Kl, eK⟩ : ∃ Kl : Nat → Addr, Kl = A0 (fun _ => K0) 1 K1 := ⟨_, rfl⟩
  have w9 : W36 T.C_Beach H9 b S P ow gs past (scI ++ L1) Kl (fun _ => []) (fun _ => []) := by
   have kne : ∀ x : Addr, x ≠ K0 → x ≠ K1 → ∀ j, j < 2 → x ≠ Kl j := fun x h0 h1 j hj => by
    rw [eK]
    match j, hj with
    | 0, _ => exact h0
    | 1, _ => exact h1
   refine ⟨f9, fun p hp => ?_, fun j hj => ?_, fun _ _ => .nil, fun i j hi hj ij => ?_⟩
   ·rcases List.mem_append.mp hp with hp | hp
    ·obtain ⟨e, hf⟩ := hI p hp
     have e1 := s1 _ _ e
     have e2 := s13 _ _ e1
     have e3 := s4 _ _ e2
     have e4 := s5 _ _ e3
     have e5 := s6 _ _ e4
     refine ⟨s79 _ _ e5, ?_, kne _ (AB e5 nK0) (AB (s7 _ _ e5) nK1)⟩
     rcases hf with hf | hf
     ·exact .inr (.inr (.inr ⟨hf, off _ (AB e nS0) (AB e nP0) (AB e1 nS1) (AB e1 nP1) (AB e2 nS2) (AB e2 nP2) (AB e3 nS3) (AB e3 nP3)⟩))
     ·exact .inl hf
    ·subst hL1
     simp only [List.mem_cons, List.not_mem_nil, or_false] at hp
     rcases hp with rfl | rfl | rfl | rfl | rfl
     ·have e4 := s4.get eLB
      have e6 := s6.get (s5.get e4)
      exact ⟨s79.get e6, .inr (.inr (.inr ⟨⟨_, rfl⟩, off _ (AB (s2.get aS0) nLB).symm (AB (s2.get aP0) nLB).symm (AB aS1 nLB).symm (AB aP1 nLB).symm (AB eLB nS2) (AB eLB nP2) (AB e4 nS3) (AB e4 nP3)⟩)), kne _ (AB e6 nK0) (AB (s7.get e6) nK1)⟩
     ·exact ⟨s79.get eLD, .inr (.inr (.inr ⟨⟨_, rfl⟩, al5 _ nLD⟩)), kne _ (AB eLD nK0) (AB (s7.get eLD) nK1)⟩
     ·exact ⟨eLK, .inr (.inr (.inr ⟨⟨_, rfl⟩, al5 _ (s6.free (s7.free (s8.free nLK)))⟩)), kne _ (AB (s8.get eK0) nLK).symm (AB eK1 nLK).symm⟩
     ·have e6 := s6.get (s5.get ed0)
      exact ⟨s79.get e6, .inr (.inr (.inl ⟨_, _, _, rfl⟩)), kne _ (AB e6 nK0) (AB (s7.get e6) nK1)⟩
     ·have e6 := s6.get ed1
      exact ⟨s79.get e6, .inr (.inr (.inl ⟨_, _, _, rfl⟩)), kne _ (AB e6 nK0) (AB (s7.get e6) nK1)⟩
   ·rw [eK]
    match j, hj with
    | 0, _ => exact ⟨(s8.trans s9).get eK0, al5 _ (s6.free nK0)⟩
    | 1, _ => exact ⟨s9.get eK1, al5 _ (s6.free (s7.free nK1))⟩
   ·rw [eK]
    have h01 : K0 ≠ K1 := AB eK0 nK1
    match i, hi, j, hj with
    | 0, _, 1, _ => exact h01
    | 1, _, 0, _ => exact h01.symm
    | 0, _, 0, _ => exact absurd rfl ij
    | 1, _, 1, _ => exact absurd rfl ij
  have m9 : Eu 0 gs past (fun _ => []) := fun j hj => ⟨(egs j (by lia)).1, (egs (2 + j) (by lia)).1, (egs j (by lia)).2, (egs (2 + j) (by lia)).2, Nat.le_refl _, fun g h => absurd h (by simp)⟩
  have mB : (LB, HO.lst [.ref (b 0), .ref (b 1)]) ∈ scI ++ L1 := by rw [eb0, eb1, hL1]; simp
  have mD : (LD, HO.lst [.ref (A0 (fun _ => d0) 1 d1 0), .ref (A0 (fun _ => d0) 1 d1 1)]) ∈ scI ++ L1 := by rw [hL1, AW, AJ (by decide)]; simp
  have mK : (LK, HO.lst [.ref (Kl 0), .ref (Kl 1)]) ∈ scI ++ L1 := by rw [hL1, eK, AW, AJ (by decide)]; simp
  have md : ∀ j, j < 2 → ∃ dx, (A0 (fun _ => d0) 1 d1 j, HO.ins T.C_Desk dx [("beach", .ref (b (2 + j)))]) ∈ scI ++ L1 := fun j hj => by
   match j, hj with
   | 0, _ => exact ⟨dx0, by rw [hL1, eb2, AJ (by decide)]; simp⟩
   | 1, _ => exact ⟨dx1, by rw [hL1, eb3, AW]; simp⟩
  have rdw : ∀ H', (∀ p ∈ scI ++ L1, H' p.1 = some p.2) → SqL K H' a (ns.map V.int) := fun H' h => rd H' fun p hp => h p (List.mem_append_left _ hp)
  clear f4 f5 aS0 aP0 aS1 aP1 aS2 aP2 aS3 aP3 nb0 nS0 nP0 nb1 nS1 nP1 nLB eLB nd0 nc0 nS2 nP2 ed0 nd1 nc1 nS3 nP3 ed1 nLD eLD nK0 eK0 nK1 eK1 nLK eLK hI rd f9 egs off al5 eo0 eo1 eo2 eo3 eb0 eb1 eb2 eb3 eK hL1
  clear s05 s13 s35 s79 s1 s2 s3 s4 s5 s6 s7 s8 s9 H1 H2 H3 H4 H5 H6 H7 H8
  generalize scI ++ L1 = L0 at *
  generalize A0 (fun _ => d0) 1 d1 = dd at *
  clear scI L1 b0 S0 P0 b1 S1 P1 d0 dx0 c0 S2 P2 d1 dx1 c1 S3 P3 K0 K1
  walk_at "Q"
  walk_at "RD"
  have sc9 := rdw H9 fun p hp => (w9.it p hp).1
  refine ⟨_, rfl, _, rfl, _, .inl sc9, _, _, rfl, _, _, rfl, _, rfl, ?_⟩
  rw [List.length_map]
  obtain ⟨N, hN, hN0, hN24⟩ : ∃ N : Int, (if (if (ns.length : Int) < 24 then (ns.length : Int) else 24) > 3 then (if (ns.length : Int) < 24 then (ns.length : Int) else 24) else 3) = N ∧ 0 ≤ N ∧ N ≤ 24 := ⟨_, rfl, by repeat' split <;> lia, by repeat' split <;> lia⟩
  rw [hN]
  clear hN
  refine ⟨by lia, by lia, Cf (fun i σ H' => ∃ (o4 o5 o6 o7 o8 o9 o10 : Option V) (S P : Nat → Addr) (ow : Nat → List Addr) (gs : Nat → List G) (past : Nat → List (List G)) (as : Nat → List Addr) (ks : Nat → List G), σ = [some (.ref a), some (.ref LB), some (.ref LD), some (.ref LK), o4, o5, o6, o7, o8, o9, o10] ∧ W36 T.C_Beach H' b S P ow gs past L0 Kl as ks ∧ Eu i gs past ks) ⟨none, none, none, none, none, none, none, S, P, ow, gs, past, _, _, rfl, w9, m9⟩ ?_ ?_⟩
  ·clear w9 m9 sc9 S P ow gs past
   rintro i σ H1 hi ⟨o4, o5, o6, o7, o8, o9, o10, S, P, ow, gs, past, as, ks, rfl, w, m⟩
   have hi' : i < 24 := by lia
   clear hi
   have sc := rdw H1 fun p hp => (w.it p hp).1
   dsimp only [Bh, List.set_cons_succ, List.set_cons_zero]
   walk_at "Q"
   walk_at "RD"
   refine ⟨by decide, fun p H2 n2 s2 e2 => ?_⟩
   obtain ⟨v3, hv3, -⟩ := atL3 (x := 3) (y := 8) (z := 5) (e := (0 + (i : Int)) % 3) (by lia) (by lia)
   refine ⟨_, SqL.of e2, _, hv3, ?_⟩
   walk_at "NX"
   have w2 := w.same s2
   have sc2 := s2.seq sc
   clear w sc s2 e2 n2
   walk_at "Q"
   have rest : ∀ c : Int, M [some (.ref a), some (.ref LB), some (.ref LD), some (.ref LK), some (.int (0 + (i : Int))), some (.int c), o6, o7, o8, o9, o10] H2 := fun c => by
    refine hM _ _ ?_
    clear hM M
    walk_at "Q"
    walk_at "RD"
    walk_at "NX"
    obtain ⟨sd, hsd, esd⟩ : ∃ sd : Nat, sd < 2 ∧ c % 2 = (sd : Int) := ⟨(c % 2).toNat, by lia, by lia⟩
    rw [esd]
    clear esd
    walk_at "Q"
    walk_at "RD"
    walk_at "NX"
    have f0 : -9 ≤ c / 8 % 19 - 9 := by lia
    have f1 : c / 8 % 19 - 9 ≤ 9 := by lia
    generalize c / 8 % 19 - 9 = ft at *
    walk_at "Q"
    walk_at "RD"
    have h0 : ft ≤ ft + c / 152 % 6 := by lia
    have h1 : ft + c / 152 % 6 ≤ ft + 5 := by lia
    generalize ft + c / 152 % 6 = hd at *
    refine ⟨by decide, fun q H3 n3 s3 e3 => ?_⟩
    walk_at "NX"
    have w3 := w2.same s3
    clear w2 sc2 n3 s3
    walk_at "Q"
    have rest2 : ∀ (H' : Hp) (S P : Nat → Addr) (ow : Nat → List Addr) (gs : Nat → List G) (past : Nat → List (List G)) (as : Nat → List Addr) (ks : Nat → List G), W36 T.C_Beach H' b S P ow gs past L0 Kl as ks → Eu (i + 1) gs past ks → M [some (.ref a), some (.ref LB), some (.ref LD), some (.ref LK), some (.int (0 + (i : Int))), some (.int c), some (.int (sd : Int)), some (.int ft), some (.ref q), o9, o10] H' := fun H' S P ow gs past as ks w m => by
     refine hM _ _ ?_
     clear hM M
     refine ⟨_, rfl, by lia, by lia, Cf (fun j σ H' => ∃ (o4 o5 o6 o7 o8 o9 o10 : Option V) (S P : Nat → Addr) (ow : Nat → List Addr) (gs : Nat → List G) (past : Nat → List (List G)) (as : Nat → List Addr) (ks : Nat → List G), σ = [some (.ref a), some (.ref LB), some (.ref LD), some (.ref LK), o4, o5, o6, o7, o8, o9, o10] ∧ W36 T.C_Beach H' b S P ow gs past L0 Kl as ks ∧ Eu (i + 1) gs past ks) ⟨_, _, _, _, _, _, _, S, P, ow, gs, past, as, ks, rfl, w, m⟩ ?_ ?_⟩
     ·clear w m S P ow gs past as ks H'
      rintro j σ H4 hj ⟨o4, o5, o6, o7, o8, o9, o10, S, P, ow, gs, past, as, ks, rfl, w, m⟩
      have hj : j < 2 := hj
      have a2 : ∀ f : Nat → Addr, atI [V.ref (f 0), V.ref (f 1)] (0 + (j : Int)) = some (V.ref (f j)) := fun f => by rw [Int.zero_add]; exact G5 hj
      obtain ⟨g1, g2, -⟩ := m j hj
      dsimp only [Bh, List.set_cons_succ, List.set_cons_zero]
      walk_at "Q"
      walk_at "RD"
      have hb := w.fam.bch j (by lia)
      have hb2 := w.fam.bch (2 + j) (by lia)
      obtain ⟨dx, eb⟩ := hb.at_
      rw [g1] at hb
      rw [g2] at hb2
      have l40 := hb.std.len
      refine ⟨_, SqL.of (w.it _ mB).1, _, a2 b, _, rfl, dx, _, eb, rfl, b j, S j, P j, ow j, ks j, past j, rfl, hb, fun H5 D as1 n5 s5 e5 ga5 => ?_⟩
      refine ⟨_, SqL.of (s5.get (w.it _ mK).1), _, a2 Kl, D, Kl j, as1, as j, ks j, rfl, e5, SqL.of (s5.get (w.kl j hj).1), ga5, (w.ga j hj).same s5, by lia, true, rfl, ?_⟩
      rw [if_neg (by decide)]
      walk_at "NX"
      have w5 := w.same s5
      have hb5 := hb2.same s5
      clear w hb hb2 eb s5 e5 ga5 n5
      walk_at "Q"
      walk_at "RD"
      obtain ⟨dx, md1⟩ := md j hj
      refine ⟨_, SqL.of (w5.it _ mD).1, _, a2 dd, _, rfl, _, _, (w5.it _ md1).1, rfl, _, dx, _, _, rfl, (w5.it _ md1).1, _, _, rfl, fun E' hE' => ⟨_, [103, 97, 116, 101, 115], tx2 "gates", [], by rw [GH], ⟨by decide, by decide⟩, by decide +kernel, .inr (.inr (.inl ⟨rfl, fun W H6 n6 s6 e6 => ⟨_, _, _, _, _, _, W, [], rfl, hb5.same s6, SqL.of e6, ⟨fun p hp => absurd hp (by simp), by decide⟩, fun h => absurd rfl h, fun _ H7 s7 => ?_⟩⟩))⟩⟩
      clear hE'
      dsimp only
      walk_at "NX"
      have w7 := w5.same (s6.trans s7)
      have ok7 := fun g hg => (hb5.std.ok g hg)
      clear w5 hb5 s6 s7 e6 n6
      walk_at "RD"
      walk_at "AUTO"
      refine ⟨_, SqL.of (w7.it _ mK).1, _, a2 Kl, Kl j, as j, ks j, rfl, SqL.of (w7.kl j hj).1, w7.ga j hj, l40, ok7, fun H8 s8 => ⟨rfl, ?_⟩⟩
      rw [if_neg (by simp)]
      exact ⟨⟨_, rfl⟩, ⟨_, rfl⟩, ⟨_, rfl⟩, ⟨_, rfl⟩, ⟨_, rfl⟩, ⟨_, rfl⟩, ⟨_, rfl⟩, S, P, ow, gs, past, as, ks, w7.same s8, m⟩
     ·rintro σ H4 ⟨o4, o5, o6, o7, o8, o9, o10, S, P, ow, gs, past, as, ks, rfl, w, m⟩
      exact ⟨_, _, _, _, _, _, _, S, P, ow, gs, past, as, ks, rfl, w, m⟩
    clear hM
    refine K5 fun A B hA hB => ?_
    have bk : ∀ H', AH H3 H' → ks sd ≠ [] → A [some (.ref a), some (.ref LB), some (.ref LD), some (.ref LK), some (.int (0 + (i : Int))), some (.int c), some (.int (sd : Int)), some (.int ft), some (.ref q), o9, o10] H' := fun H' s' hne => by
     refine hA _ _ ?_
     clear hA hB A B
     walk_at "Q"
     delta tBM0 rPop
     have w4 := w3.same s'
     obtain ⟨g1, g2, g3, g4, g5, g6⟩ := m sd hsd
     have ga4 := w4.ga sd hsd
     obtain ⟨l, g, el⟩ : ∃ l g, ks sd = l ++ [g] := (List.eq_nil_or_concat _).resolve_left hne |>.imp fun l h => h.imp fun g h => h.trans List.concat_eq_append
     rw [el] at ga4 g1 g2 g3 g4 g5 g6
     have la := ga4.len
     rw [List.length_append, List.length_singleton] at la g5
     have gd := Paired.dropP ga4
     rw [List.dropLast_concat] at gd
     have w5 := w4.put hsd gd
     refine ⟨_, SqL.of (w4.it _ mK).1, _, G5 hsd, .inl ⟨rfl, _, SqL.of (w4.kl sd hsd).1⟩, _, rfl, _, (w4.kl sd hsd).1, ⟨.ref ((as sd)[(as sd).length - 1]), ?_⟩, ?_⟩
     ·rw [List.length_map, List.getElem?_map, List.getElem?_eq_getElem (by lia)]; rfl
     walk_at "NX"
     rw [← List.map_dropLast]
     generalize upd H' (Kl sd) (.lst ((as sd).dropLast.map V.ref)) = H5 at *
     clear w3 w4 ga4 gd
     walk_at "Q"
     walk_at "RD"
     have hb := w5.fam.bch sd (by lia)
     obtain ⟨dx, eb⟩ := hb.at_
     obtain ⟨k1, k2, k3⟩ := Ll (l := l) (g := g)
     rw [g1, g3] at hb
     refine ⟨_, SqL.of (w5.it _ mB).1, _, G5 hsd, _, rfl, dx, _, eb, rfl, b sd, S sd, P sd, ow sd, _, _, 1, rfl, hb, fun e he => (by rw [k1] at he; cases he), fun _ H6 S' P' ow' kp hb6 ho => ?_⟩
     rw [k2, k3] at hb6
     walk_at "NX"
     have kp' : Kp (b sd) (P sd) H5 H6 := fun a u h1 _ e => kp a u h1 h1 e
     have w6 := w5.step (show sd < 4 by lia) kp' hb6 ho
     clear w5 hb eb hb6 kp kp' ho
     walk_at "RD"
     obtain ⟨dx, md1⟩ := md sd hsd
     have hb := w6.fam.bch (2 + sd) (by lia)
     rw [AJ (show 2 + sd ≠ sd by lia), AJ (show 2 + sd ≠ sd by lia), AJ (show 2 + sd ≠ sd by lia), AJ (show 2 + sd ≠ sd by lia), AJ (show 2 + sd ≠ sd by lia), g2, g4] at hb
     refine ⟨_, SqL.of (w6.it _ mD).1, _, G5 hsd, _, rfl, _, _, (w6.it _ md1).1, rfl, _, dx, _, _, rfl, (w6.it _ md1).1, _, _, rfl, fun E' _ => ⟨_, [98, 97, 99, 107], tx2 "back", [], by rw [OG], ⟨by decide, by decide⟩, by decide +kernel, .inr (.inl ⟨rfl, fun W H7 n7 s7 e7 => ⟨_, _, _, _, _, _, W, [], rfl, hb.same s7, SqL.of e7, ⟨fun p hp => absurd hp (by simp), by decide⟩, fun h => absurd h (by simp [numsOf]), fun n hn => ?_⟩⟩)⟩⟩
     obtain rfl : n = 1 := hn.elim (fun z => z.2) fun z => by cases z
     refine ⟨fun e he => (by rw [k1] at he; cases he), fun _ H8 S8 P8 ow8 kp hb8 ho => ?_⟩
     rw [k2, k3] at hb8
     have w8 := (w6.same s7).step (show 2 + sd < 4 by lia) (show Kp _ _ H7 H8 from fun a u h1 h2 e => kp a u h1 (by rw [AJ (show 2 + sd ≠ sd by lia)] at h2; exact h2) e) hb8 (fun a ha => (ho a ha).imp (fun z => by rw [AJ (show 2 + sd ≠ sd by lia)]; exact z) id)
     exact rest2 _ _ _ _ _ _ _ _ w8 (m.set hsd (by lia) fun x hx => by have := g6 x (List.mem_append_left _ hx); lia)
    have pt : ∀ H', AH H3 H' → B [some (.ref a), some (.ref LB), some (.ref LD), some (.ref LK), some (.int (0 + (i : Int))), some (.int c), some (.int (sd : Int)), some (.int ft), some (.ref q), o9, o10] H' := fun H' s' => by
     refine hB _ _ ?_
     clear bk
     clear hA hB A B
     walk_at "Q"
     walk_at "RD"
     have w4 := w3.same s'
     obtain ⟨g1, g2, g3, g4, g5, g6⟩ := m sd hsd
     have eq4 := s'.get e3
     rw [Int.zero_add] at eq4
     have ga5 : Aa H' (as sd ++ [q]) (ks sd ++ [⟨(i : Int) - 12, ft, hd⟩]) := (w4.ga sd hsd).snoc eq4
     have w5 := w4.put hsd ga5
     have lk := (w4.ga sd hsd).len
     refine ⟨_, SqL.of (w4.it _ mK).1, _, G5 hsd, _, rfl, ⟨_, (w4.kl sd hsd).1⟩, _, (w4.kl sd hsd).1, by rw [List.length_map, PySem.sizeLine_eq]; lia, ?_⟩
     walk_at "NX"
     have eq5 : upd H' (Kl sd) (.lst ((as sd).map V.ref ++ [.ref q])) q = some (.tup [.int ((i : Int) - 12), .int ft, .int hd]) := (AF (Fn eq4 (w4.kl sd hsd).1 fun z => by cases z)).trans eq4
     rw [show (as sd).map V.ref ++ [V.ref q] = (as sd ++ [q]).map V.ref by rw [List.map_append]; rfl] at eq5 ⊢
     generalize upd H' (Kl sd) (.lst ((as sd ++ [q]).map V.ref)) = H5 at *
     clear w3 w4 ga5 lk eq4 e3 s'
     have p1 := put36 hi' g5 g6 f0 f1 h0 h1
     have p2 : Co (ks sd) ((i : Int) - 12) [⟨(i : Int) - 12, ft, hd⟩] = ks sd ++ [⟨(i : Int) - 12, ft, hd⟩] := Ik (g := ⟨(i : Int) - 12, ft, hd⟩) g6
     have p3 := DQ (ks sd) ⟨(i : Int) - 12, ft, hd⟩
     walk_at "Q"
     walk_at "RD"
     have hb := w5.fam.bch sd (by lia)
     obtain ⟨dx, eb⟩ := hb.at_
     rw [g1, g3] at hb
     refine ⟨_, SqL.of (w5.it _ mB).1, _, G5 hsd, _, rfl, dx, _, eb, rfl, _, SqT.of eq5, _, rfl, _, SqT.of eq5, _, rfl, _, SqT.of eq5, _, rfl, b sd, S sd, P sd, ow sd, _, _, _, _, _, rfl, hb, fun e he => (by rw [p1] at he; cases he), fun _ H6 S' ow' D kp hb6 ho _ => ?_⟩
     rw [p2, ← p3] at hb6
     walk_at "NX"
     have w6 := w5.step (show sd < 4 by lia) kp hb6 ho
     have eq6 := w5.fam.get (show sd < 4 by lia) kp eq5 (.inr (.inl ⟨_, rfl⟩))
     clear w5 hb eb hb6 kp ho eq5
     have B1 : ∀ {n : Int}, -1000 ≤ n → n ≤ 1000 → n.natAbs ≤ 10 ^ 40 := fun h1 h2 => Dw ⟨h1, h2⟩
     have c1 := B1 (n := (i : Int) - 12) (by lia) (by lia)
     have c2 := B1 (n := ft) (by lia) (by lia)
     have c3 := B1 (n := hd) (by lia) (by lia)
     have d1 := CB c1
     have d2 := CB c2
     have d3 := CB c3
     have da : ∀ n c, c ∈ dec n → c < 128 := fun n c h => by have := F6 n c h; lia
     have n32 : ∀ n, 32 ∉ dec n := fun n h => by have := F6 n 32 h; lia
     have num3 : numsOf [dec ((i : Int) - 12), dec ft, dec hd] = some [(i : Int) - 12, ft, hd] := by
      simp only [numsOf, GP (show ((i : Int) - 12).natAbs ≤ 999999999 by lia), GP (show ft.natAbs ≤ 999999999 by lia), GP (show hd.natAbs ≤ 999999999 by lia)]
      rfl
     walk_at "RD"
     obtain ⟨dx, md1⟩ := md sd hsd
     have hb := w6.fam.bch (2 + sd) (by lia)
     rw [AJ (show 2 + sd ≠ sd by lia), AJ (show 2 + sd ≠ sd by lia), AJ (show 2 + sd ≠ sd by lia), AJ (show 2 + sd ≠ sd by lia), AJ (show 2 + sd ≠ sd by lia), g2, g4] at hb
     refine ⟨_, SqL.of (w6.it _ mD).1, _, G5 hsd, _, rfl, _, _, (w6.it _ md1).1, rfl, _, SqT.of eq6, _, rfl, _, rfl, Gu c1, ?_⟩
     rw [A9, o_put, KH, Bd, Bd, AU, AU, AU, AU, PySem.sizeLine_eq]
     simp only [List.length_append, List.length_cons, List.length_nil]
     refine ⟨by lia, by lia, _, SqT.of eq6, _, rfl, _, rfl, Gu c2, ?_⟩
     rw [A9, Bd, Bd, AU, AU, AU]
     simp only [List.length_append, List.length_cons, List.length_nil]
     refine ⟨by lia, by lia, _, SqT.of eq6, _, rfl, _, rfl, Gu c3, ?_⟩
     rw [A9, Bd, AU, AU]
     simp only [List.length_append, List.length_cons, List.length_nil]
     refine ⟨by lia, _, dx, _, _, rfl, (w6.it _ md1).1, _, _, rfl, fun E' hE' => ⟨_, _, tx2 "put", [dec ((i : Int) - 12), dec ft, dec hd], rfl, ⟨?_, ?_⟩, ?_, .inl ⟨rfl, fun W H7 n7 s7 e7 => ⟨_, _, _, _, _, _, W, _, rfl, hb.same s7, SqL.of e7, ⟨?_, by show 3 ≤ 100001; decide⟩, ?_, ?_⟩⟩⟩⟩
     ·intro c hc
      simp only [List.mem_append, List.mem_cons, List.not_mem_nil, or_false] at hc
      rcases hc with ((((hc | hc) | hc) | hc) | hc) | hc
      ·lia
      ·exact da _ _ hc
      ·lia
      ·exact da _ _ hc
      ·lia
      ·exact da _ _ hc
     ·simp only [List.length_append, List.length_cons, List.length_nil]; lia
     ·rw [show [112, 117, 116, 32] ++ dec ((i : Int) - 12) ++ [32] ++ dec ft ++ [32] ++ dec hd = [112, 117, 116] ++ 32 :: (dec ((i : Int) - 12) ++ 32 :: (dec ft ++ 32 :: dec hd)) by simp only [List.append_assoc, List.cons_append, List.nil_append], Ce (by decide), Ce (n32 _), Ce (n32 _), D5 (n32 _), show tx2 "put" = [112, 117, 116] by decide +kernel]
     ·intro z hz
      simp only [List.mem_cons, List.not_mem_nil, or_false] at hz
      rcases hz with rfl | rfl | rfl
      ·exact ⟨da _, by lia⟩
      ·exact ⟨da _, by lia⟩
      ·exact ⟨da _, by lia⟩
     ·intro hz
      rcases hz with hz | hz
      ·exact absurd rfl hz
      ·rw [num3] at hz; cases hz
     ·intro z1 z2 z3 hz
      rw [num3] at hz
      cases hz
      refine ⟨fun e he => (by rw [p1] at he; cases he), fun _ H8 S8 ow8 kp hb8 ho => ?_⟩
      rw [p2, ← p3] at hb8
      have w8 := (w6.same s7).step (show 2 + sd < 4 by lia) (show Kp _ _ H7 H8 from fun a u h1 h2 e => kp a u h1 (by rw [AJ (show 2 + sd ≠ sd by lia)] at h2; exact h2) e) hb8 (fun a ha => (ho a ha).imp (fun z => by rw [AJ (show 2 + sd ≠ sd by lia)]; exact z) id)
      exact rest2 _ _ _ _ _ _ _ _ w8 (m.set hsd (by rw [List.length_append, List.length_singleton]; lia) fun x hx => by
       rcases List.mem_append.mp hx with z | z
       ·have := g6 x z; lia
       ·rw [List.mem_singleton.mp z]; show (i : Int) - 12 < _; lia)
    clear hA hB
    walk_at "RD"
    have eLK := (w3.it _ mK).1
    have a2 : atI [V.ref (Kl 0), V.ref (Kl 1)] (sd : Int) = some (V.ref (Kl sd)) := G5 hsd
    by_cases hc : c / 2 % 4 = 3
    ·rw [if_pos (decide_eq_true hc)]
     refine ⟨_, SqL.of eLK, _, a2, by decide, fun p H4 n4 s4 e4 => ⟨_, p, rfl, rfl, _, SqL.of (s4.get (w3.kl sd hsd).1), SqL.of e4, _, rfl, ?_⟩⟩
     have lk := (w3.ga sd hsd).len
     by_cases hn : ks sd = []
     ·rw [hn] at lk
      rw [if_neg (by simpa using lk)]
      exact pt _ s4
     ·rw [if_pos (by simpa using fun z => hn (List.length_eq_zero_iff.mp (by rw [← lk, z]; rfl)))]
      exact bk _ s4 hn
    ·rw [if_neg (fun z => hc (of_decide_eq_true z))]
     exact pt _ (AH.refl _)
   clear hM
   walk_at "RD"
   refine ⟨_, .inl sc2, ?_⟩
   rw [List.length_map]
   split
   ·rename_i hk
    have hk := of_decide_eq_true hk
    exact ⟨_, sc2, _, HE (by lia) (by lia), rest _⟩
   ·exact rest _
  ·rintro σ H1 ⟨o4, o5, o6, o7, o8, o9, o10, S, P, ow, gs, past, as, ks, rfl, w, m⟩
   refine hM _ _ ?_
   walk_at "RD"
   exact k _
end
theorem ME {l : PySem.W.OpenLaw} {w : World} {K : PySem.W.Frag} {h : Heap} {mg : Str → Option Value} {fa : Addr} (KO : G8 K = Ij w) (X : K.In h) (G : h.Ns mainGlobals mg) (hfa : mg "law" = some (.ref fa)) :
  ∃ fd : FuncData, (∀ (s : Shared) (v : Value), BindsTo s fd ⟨[v], []⟩ [("_law_script", v)]) ∧ ∀ base : Heap, K.In base → base.Ns mainGlobals mg → Ad l.prog w K mg base CX0 9 fa fd ["_law_script"] (HR K) := by
 obtain ⟨g0, KO⟩ := Prod.mk.inj KO
 obtain ⟨g1, KO⟩ := Prod.mk.inj KO
 obtain ⟨g2, KO⟩ := Prod.mk.inj KO
 obtain ⟨g3, KO⟩ := Prod.mk.inj KO
 obtain ⟨g4, KO⟩ := Prod.mk.inj KO
 obtain ⟨g5, KO⟩ := Prod.mk.inj KO
 obtain ⟨g6, KO⟩ := Prod.mk.inj KO
 obtain ⟨g7, KO⟩ := Prod.mk.inj KO
 obtain ⟨g8, KO⟩ := Prod.mk.inj KO
 obtain ⟨g9, KO⟩ := Prod.mk.inj KO
 have hH := KO
 obtain ⟨h1, h2, h3, h4, h5, h6, h7, h8⟩ := Io g0
 obtain ⟨h9, h10, h11, h12, h13, h14, h15, h16⟩ := Io g1
 obtain ⟨h52, h53, h54, h55, h56, h57, h58, h59⟩ := Io g2
 obtain ⟨h60, h61, h62, h63, h64⟩ := inj5 g3
 obtain ⟨h17, h18, h19, h20, h21, h22, h23, h24⟩ := Io g4
 obtain ⟨h25, h26, h27, h28, h29, h30, h31, h32⟩ := Io g5
 obtain ⟨h33, h34, h35, h36, h37, h38, h39, h40⟩ := Io g6
 obtain ⟨h41, h42, h43⟩ := inj3 g7
 obtain ⟨h44, h45, h46, h47, h48, h49, h51⟩ := inj7 g8
 have h50 := inj1 g9
 obtain ⟨C_Beach, aC_Beach, pg_Beach, hd_Beach, po_Beach, sa_Beach, mk_Beach, kc_Beach, na_Beach⟩ := IX h1
 obtain ⟨C_Desk, aC_Desk, pg_Desk, hd_Desk, po_Desk, sa_Desk, mk_Desk, kc_Desk, na_Desk⟩ := IX h2
 obtain ⟨C_BeachError, aC_BeachError, ex_BeachError⟩ := Aq h3
 obtain ⟨C_NoGate, aC_NoGate, ex_NoGate⟩ := Aq h4
 obtain ⟨C_Taken, aC_Taken, ex_Taken⟩ := Aq h5
 obtain ⟨C_UpsideDown, aC_UpsideDown, ex_UpsideDown⟩ := Aq h6
 obtain ⟨C_OutOfBounds, aC_OutOfBounds, ex_OutOfBounds⟩ := Aq h7
 obtain ⟨C_BeachFull, aC_BeachFull, ex_BeachFull⟩ := Aq h8
 obtain ⟨C_DeedsFull, aC_DeedsFull, ex_DeedsFull⟩ := Aq h9
 obtain ⟨C_NothingBack, aC_NothingBack, ex_NothingBack⟩ := Aq h10
 obtain ⟨C_BadList, aC_BadList, ex_BadList⟩ := Aq h11
 obtain ⟨C_TooFew, aC_TooFew, ex_TooFew⟩ := Aq h12
 obtain ⟨C_WrongSize, aC_WrongSize, ex_WrongSize⟩ := Aq h13
 obtain ⟨C_BadThrow, aC_BadThrow, ex_BadThrow⟩ := Aq h14
 obtain ⟨C_BadRow, aC_BadRow, ex_BadRow⟩ := Aq h15
 obtain ⟨f1, fd1, d1⟩ := An (ps := ["gate"]) X G h17 fun _ _ _ _ _ _ us hl => by walk_at "b1"
 obtain ⟨f2, fd2, d2⟩ := DF (ps := ["self"]) aC_Beach h18 fun _ _ _ _ _ _ us hl => by walk_at "b1"
 obtain ⟨f3, fd3, d3⟩ := DF (ps := ["self", "place"]) aC_Beach h19 fun _ _ _ _ _ _ us hl => by walk_at "b2"
 obtain ⟨f4, fd4, d4⟩ := DF (ps := ["self", "place", "instead"]) aC_Beach h20 fun _ _ _ _ _ _ us hl => by walk_at "b3"
 obtain ⟨f5, fd5, d5⟩ := DF (ps := ["self", "place", "foot", "head"]) aC_Beach h21 fun _ _ _ _ _ _ us hl => by walk_at "b4"
 obtain ⟨f6, fd6, d6⟩ := Kw (ps := ["self", "many"]) aC_Beach h22 (fun s d _ _ _ _ _ _ _ _ _ _ _ us ho hl => by obtain ⟨x0, x1, rfl⟩ := Lk hl; exact BindsTo.of_defaults (T := d) rfl ho rfl rfl rfl) (fun s d _ _ _ _ _ _ _ _ _ _ _ us ho hl => by obtain ⟨x0, rfl⟩ := LA (Nat.succ.inj hl); exact BindsTo.of_defaults (T := d) rfl ho rfl rfl rfl)
 obtain ⟨f7, fd7, d7⟩ := DF (ps := ["self"]) aC_Beach h23 fun _ _ _ _ _ _ us hl => by walk_at "b1"
 obtain ⟨f8, fd8, d8⟩ := An (ps := ["text"]) X G h24 fun _ _ _ _ _ _ us hl => by walk_at "b1"
 obtain ⟨f9, fd9, d9⟩ := An (ps := ["text"]) X G h25 fun _ _ _ _ _ _ us hl => by walk_at "b1"
 obtain ⟨f10, fd10, d10⟩ := An (ps := ["words", "many"]) X G h26 fun _ _ _ _ _ _ us hl => by walk_at "b2"
 obtain ⟨f11, fd11, d11⟩ := An (ps := ["words"]) X G h27 fun _ _ _ _ _ _ us hl => by walk_at "b1"
 obtain ⟨f12, fd12, d12⟩ := An (ps := ["words", "many"]) X G h28 fun _ _ _ _ _ _ us hl => by walk_at "b2"
 obtain ⟨f13, fd13, d13⟩ := An (ps := ["numbers"]) X G h29 fun _ _ _ _ _ _ us hl => by walk_at "b1"
 obtain ⟨f14, fd14, d14⟩ := An (ps := ["gate"]) X G h30 fun _ _ _ _ _ _ us hl => by walk_at "b1"
 obtain ⟨f15, fd15, d15⟩ := An (ps := ["many"]) X G h31 fun _ _ _ _ _ _ us hl => by walk_at "b1"
 obtain ⟨f16, fd16, d16⟩ := An (ps := ["beach", "words"]) X G h32 fun _ _ _ _ _ _ us hl => by walk_at "b2"
 obtain ⟨f17, fd17, d17⟩ := An (ps := ["beach", "words"]) X G h33 fun _ _ _ _ _ _ us hl => by walk_at "b2"
 obtain ⟨f18, fd18, d18⟩ := An (ps := ["beach", "words"]) X G h34 fun _ _ _ _ _ _ us hl => by walk_at "b2"
 obtain ⟨f19, fd19, d19⟩ := An (ps := ["beach", "row"]) X G h35 fun _ _ _ _ _ _ us hl => by walk_at "b2"
 obtain ⟨f20, fd20, d20⟩ := An (ps := ["beach", "row"]) X G h36 fun _ _ _ _ _ _ us hl => by walk_at "b2"
 obtain ⟨f21, fd21, d21⟩ := DF (ps := ["self"]) aC_Desk h37 fun _ _ _ _ _ _ us hl => by walk_at "b1"
 obtain ⟨f22, fd22, d22⟩ := DF (ps := ["self", "row"]) aC_Desk h38 fun _ _ _ _ _ _ us hl => by walk_at "b2"
 obtain ⟨f23, fd23, d23⟩ := An (ps := ["_law_found"]) X G h39 fun _ _ _ _ _ _ us hl => by walk_at "b1"
 obtain ⟨f24, fd24, d24⟩ := An (ps := ["_law_found", "_law_due"]) X G h40 fun _ _ _ _ _ _ us hl => by walk_at "b2"
 obtain ⟨f25, fd25, d25⟩ := An (ps := ["_law_found", "_law_due"]) X G h41 fun _ _ _ _ _ _ us hl => by walk_at "b2"
 obtain ⟨f26, fd26, d26⟩ := An (ps := ["_law_row"]) X G h42 fun _ _ _ _ _ _ us hl => by walk_at "b1"
 obtain ⟨f27, oc, od, sl, kV, dc, pm, an, cd, ct, a, l, c, k⟩ := II h43
 obtain ⟨t_LEAST, ak_LEAST⟩ := B7 h44
 obtain ⟨t_GREATEST, ak_GREATEST⟩ := B7 h45
 obtain ⟨t_MOST_GATES, ak_MOST_GATES⟩ := B7 h46
 obtain ⟨t_MOST_DEEDS, ak_MOST_DEEDS⟩ := B7 h47
 obtain ⟨t_SMALL_BEACH, ak_SMALL_BEACH⟩ := B7 h48
 obtain ⟨t_GREAT_NUMBER, ak_GREAT_NUMBER⟩ := B7 h49
 obtain ⟨t_FIGURES, ak_FIGURES⟩ := KZ h50
 obtain ⟨t_MOST_FIGURES, ak_MOST_FIGURES⟩ := B7 h51
 obtain ⟨A_ROWS, m_ROWS, rows⟩ := Kh X G h52 hH
 have e := hfa.symm.trans (PySem.W.mg_of X G a)
 cases e
 let T : Tx w K mg := ⟨C_Beach,
  PySem.W.mg_of X G aC_Beach,
  ⟨pg_Beach, hd_Beach, po_Beach, sa_Beach⟩,
  C_Desk,
  PySem.W.mg_of X G aC_Desk,
  ⟨pg_Desk, hd_Desk, po_Desk, sa_Desk⟩,
  na_Beach "standing" (by simp only [List.mem_cons, true_or, or_true]),
  na_Beach "past" (by simp only [List.mem_cons, true_or, or_true]),
  na_Desk "beach" (by simp only [List.mem_cons, true_or, or_true]),
  C_BeachError,
  PySem.W.mg_of X G aC_BeachError,
  ex_BeachError,
  C_NoGate,
  PySem.W.mg_of X G aC_NoGate,
  ex_NoGate,
  C_Taken,
  PySem.W.mg_of X G aC_Taken,
  ex_Taken,
  C_UpsideDown,
  PySem.W.mg_of X G aC_UpsideDown,
  ex_UpsideDown,
  C_OutOfBounds,
  PySem.W.mg_of X G aC_OutOfBounds,
  ex_OutOfBounds,
  C_BeachFull,
  PySem.W.mg_of X G aC_BeachFull,
  ex_BeachFull,
  C_DeedsFull,
  PySem.W.mg_of X G aC_DeedsFull,
  ex_DeedsFull,
  C_NothingBack,
  PySem.W.mg_of X G aC_NothingBack,
  ex_NothingBack,
  C_BadList,
  PySem.W.mg_of X G aC_BadList,
  ex_BadList,
  C_TooFew,
  PySem.W.mg_of X G aC_TooFew,
  ex_TooFew,
  C_WrongSize,
  PySem.W.mg_of X G aC_WrongSize,
  ex_WrongSize,
  C_BadThrow,
  PySem.W.mg_of X G aC_BadThrow,
  ex_BadThrow,
  C_BadRow,
  PySem.W.mg_of X G aC_BadRow,
  ex_BadRow,
  KR (.cons aC_BadRow (.cons aC_NoGate (.cons aC_Taken (.cons aC_UpsideDown (.cons aC_OutOfBounds (.cons aC_BeachFull (.cons aC_DeedsFull (.cons aC_NothingBack (.cons aC_BadList (.cons aC_TooFew (.cons aC_WrongSize (.cons aC_BadThrow .nil)))))))))))) h16,
  f1, fd1, d1,
  f2, fd2, d2,
  f3, fd3, d3,
  f4, fd4, d4,
  f5, fd5, d5,
  f6, fd6, d6,
  f7, fd7, d7,
  f8, fd8, d8,
  f9, fd9, d9,
  f10, fd10, d10,
  f11, fd11, d11,
  f12, fd12, d12,
  f13, fd13, d13,
  f14, fd14, d14,
  f15, fd15, d15,
  f16, fd16, d16,
  f17, fd17, d17,
  f18, fd18, d18,
  f19, fd19, d19,
  f20, fd20, d20,
  f21, fd21, d21,
  f22, fd22, d22,
  f23, fd23, d23,
  f24, fd24, d24,
  f25, fd25, d25,
  f26, fd26, d26,
  _, _, ⟨Dt l c k, PySem.W.mg_of X G a, (Dt l c k).binds (ps := ["_law_script"]) fun _ _ _ _ _ _ us hl => by walk_at "b1"⟩,
  ⟨mk_Beach, d2.mt.1, d2.mt.2, kc_Beach⟩,
  ⟨mk_Desk, d21.mt.1, d21.mt.2, kc_Desk⟩,
  _,
  PySem.W.mg_of X G ak_LEAST,
  ⟨_, rfl⟩,
  _,
  PySem.W.mg_of X G ak_GREATEST,
  ⟨_, rfl⟩,
  _,
  PySem.W.mg_of X G ak_MOST_GATES,
  ⟨_, rfl⟩,
  _,
  PySem.W.mg_of X G ak_MOST_DEEDS,
  ⟨_, rfl⟩,
  _,
  PySem.W.mg_of X G ak_SMALL_BEACH,
  ⟨_, rfl⟩,
  _,
  PySem.W.mg_of X G ak_GREAT_NUMBER,
  ⟨_, rfl⟩,
  _,
  PySem.W.mg_of X G ak_FIGURES,
  ⟨_, rfl⟩,
  _,
  PySem.W.mg_of X G ak_MOST_FIGURES,
  ⟨_, rfl⟩,
  A_ROWS,
  m_ROWS,
  rows,
  PySem.W.mg_none_of X G (Ay h53),
  PySem.W.mg_none_of X G (Ay h54),
  PySem.W.mg_none_of X G (Ay h55),
  PySem.W.mg_none_of X G (Ay h56),
  PySem.W.mg_none_of X G (Ay h57),
  PySem.W.mg_none_of X G (Ay h58),
  PySem.W.mg_none_of X G (Ay h59),
  PySem.W.mg_none_of X G (Ay h60),
  PySem.W.mg_none_of X G (Ay h61),
  PySem.W.mg_none_of X G (Ay h62),
  PySem.W.mg_none_of X G (Ay h63),
  PySem.W.mg_none_of X G (Ay h64)⟩
 exact ⟨_, fun s v => .of_eq rfl, fun base _ _ => PP T⟩
end TG
open PySem PySem.W PyProof.Rows
set_option maxRecDepth 100000 in
set_option maxHeartbeats 0 in
theorem PySem.Challenge.cw_throwgate_k36_apart_holds : PySem.Challenge.rw_throwgate_k36_apart.Holds := by
 w_on; o_law
 refine holds_open (q := TG.qv) (loose := TG.D0) (Xt := fun _ => true) (XP := fun _ _ => True) (Yf := fun s => TG.G8 (TG.Kof TG.addrs s.heap)) (Ya := fun w => TG.Ij w) (YP := TG.DG TG.addrs TG.G8 TG.Ij) (N := 12244) TG.left (fun w s e => TG.DG.of w s e) TG.DG.keeps (fun _ _ => trivial) (fun _ _ _ _ _ => trivial) (by rfl) (by rfl) (by rfl) (fun _ _ => TG.Oe rfl) rfl (by assumption) (by decide +kernel) ⟨rfl, rfl, rfl, rfl, rfl, by decide +kernel⟩ ?hw ?hc
 case hw => w_witness2
 case hc =>
  exact TG.Jb (l := PySem.Challenge.rw_throwgate_k36_apart) (n := 63) (k := 9) (x := "_law_script") (CX := L2.CX0) (sp := TG.HR) rfl (by decide) rfl ⟨rfl, by decide, by decide⟩ (fun w mg fa h K KO KX G hmg => TG.ME KO KX G hmg) (fun _ _ a ns hl _ hS => ⟨a, ns, rfl, hS, hl, fun _ => rfl⟩) fun _ _ _ _ z => z
