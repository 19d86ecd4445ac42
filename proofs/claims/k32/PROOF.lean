import PyProof.Rows.All
import Wide.All
import OpenK.AllK
import Wide.FinOn
import Lean
import PyProof.EqAt
import PyProof.EqKinds
import PyProof.TupleCall
import KE.KMinKey
import KE.KIntText
import PyProof.MeetsStr2
import PyProof.FString
import PyProof.FString2
import PyProof.StrLawsTight
import PyProof.StrLawsIdx
import PyProof.StrBlockL
import PyProof.StrBlock2
import PyProof.Rows.StrJoin2
import PyProof.Rows.StrBin
import PyProof.Rows.StrItems
import KE.IntTextText
import Open.Fast
import PySem.Challenge.RW_throwgate_k32_fractions_as_texts
set_option Elab.async false
set_option linter.all false
set_option maxRecDepth 100000
namespace L2
open PySem PySem.Spec PyProof.Rows
abbrev Key := Sum Int Str
def II : Key → Value → Bool
 | .inl k, v => Value.isInt k v
 | .inr x, v => Value.isStrOf x v
def keyH (w : World) : Key → Int
 | .inl k => hashInt k
 | .inr x => hashStr w x
theorem AX : ∀ {k : Key} {v : Value}, II k v = true → (∃ i t, k = Sum.inl i ∧ v = Value.int i t) ∨ (∃ x t, k = Sum.inr x ∧ v = Value.str x t)
 | .inl i, v, h => by
  obtain ⟨t, e⟩ := Value.isInt_shape (k := i) (v := v) h
  exact .inl ⟨i, t, rfl, e⟩
 | .inr x, v, h => by
  obtain ⟨t, e⟩ := Value.isStrOf_shape (x := x) (v := v) h
  exact .inr ⟨x, t, rfl, e⟩
theorem Ib (a b : Int) : decide ((Sum.inl a : Key) = Sum.inl b) = (a == b) := by
 by_cases e : a = b
 ·subst e; simp
 ·have h : ¬ (Sum.inl a : Key) = Sum.inl b := fun q => e (Sum.inl.inj q)
  rw [decide_eq_false h]
  exact (beq_eq_false_iff_ne.mpr e).symm
theorem IS (a b : Str) : decide ((Sum.inr a : Key) = Sum.inr b) = decide (a = b) := by
 by_cases e : a = b
 ·subst e; simp
 ·have h : ¬ (Sum.inr a : Key) = Sum.inr b := fun q => e (Sum.inr.inj q)
  rw [decide_eq_false h, decide_eq_false e]
theorem IT (a : Int) (b : Str) : decide ((Sum.inl a : Key) = Sum.inr b) = false := decide_eq_false (fun q => nomatch q)
theorem Ip (a : Str) (b : Int) : decide ((Sum.inr a : Key) = Sum.inl b) = false := decide_eq_false (fun q => nomatch q)
def Fw (prog : Program) (w : World) : PySem.KeyKind prog w Key where
 is := II
 hash := keyH w
 inj := fun v a b ha hb => by
  rcases AX ha with ⟨i, t, rfl, rfl⟩ | ⟨x, t, rfl, rfl⟩
  ·rcases AX hb with ⟨j, u, rfl, e⟩ | ⟨y, u, rfl, e⟩
   ·injection e with e1 _; rw [e1]
   ·exact nomatch e
  ·rcases AX hb with ⟨j, u, rfl, e⟩ | ⟨y, u, rfl, e⟩
   ·exact nomatch e
   ·injection e with e1 _; rw [e1]
 byValue := fun k v h => by
  rcases AX h with ⟨i, t, rfl, rfl⟩ | ⟨x, t, rfl, rfl⟩ <;> rfl
 pyHash := fun hv h => by
  rcases AX hv with ⟨i, t, rfl, rfl⟩ | ⟨x, t, rfl, rfl⟩
  ·exact wpAny_pyHash_int h
  ·exact wpAny_pyHash_str h
 eqBool := fun hu hv h => by
  rcases AX hu with ⟨i, t, rfl, rfl⟩ | ⟨x, t, rfl, rfl⟩
  ·rcases AX hv with ⟨j, u, rfl, rfl⟩ | ⟨y, u, rfl, rfl⟩
   ·rw [Ib] at h; exact wpAny_eqBool_int h
   ·rw [IT] at h; exact SeqAt.EqAt.int_str i t y u _ _ _ _ h
  ·rcases AX hv with ⟨j, u, rfl, rfl⟩ | ⟨y, u, rfl, rfl⟩
   ·rw [Ip] at h; exact SeqAt.EqAt.str_int x t j u _ _ _ _ h
   ·rw [IS] at h; exact wpAny_eqBool_str h
 «strs» := fun k x t v h => by
  rcases AX h with ⟨i, u, rfl, e⟩ | ⟨y, u, rfl, e⟩
  ·exact nomatch e
  ·injection e with e1 _
   subst e1
   cases v <;> rfl
end L2
namespace L2
open PySem PySem.Spec PyProof.Rows
inductive V where
 | non | bl (b : Bool) | int (i : Int) | str (x : Str) | byt (b : Array UInt8) | flt (b : UInt64) | ref (a : Addr) | ty (n : String)
 deriving DecidableEq
def RelV : V → Value → Prop
 | .non, u => u = Value.none
 | .bl b, u => u = Value.bool b
 | .int i, u => ∃ t, u = Value.int i t
 | .str x, u => ∃ t, u = Value.str x t
 | .byt b, u => ∃ t, u = Value.bytes b t
 | .flt b, u => ∃ t, u = Value.float b t
 | .ref a, u => u = Value.ref a
 | .ty n, u => u = Value.type n
abbrev AU : List V → List Value → Prop := Paired RelV
theorem AU.length {xs : List V} {us : List Value} (r : AU xs us) : xs.length = us.length := Paired.length r
theorem AU.get : ∀ {xs : List V} {us : List Value} {i : Nat} {x : V}, AU xs us → xs[i]? = some x → ∃ u, us[i]? = some u ∧ RelV x u
 | _, _, _, _, .nil, e => by simp at e
 | _, _, 0, _, .cons r _, e => by simp at e; subst e; exact ⟨_, rfl, r⟩
 | _, _, i + 1, x, .cons _ t, e => by
  obtain ⟨u, h1, h2⟩ := AU.get (i := i) (x := x) t (by simpa using e)
  exact ⟨u, by simpa using h1, h2⟩
theorem AU.append : ∀ {xs ys : List V} {us ws : List Value}, AU xs us → AU ys ws → AU (xs ++ ys) (us ++ ws)
 | _, _, _, _, .nil, s => s
 | _, _, _, _, .cons r t, s => .cons r (AU.append t s)
def JI : Option V → Option Value → Prop
 | some v, some u => RelV v u
 | none, none => True
 | _, _ => False
def KV {κ : Type} : List (κ × V) → List (κ × Value) → Prop := Paired fun (p : κ × V) (q : κ × Value) => p.1 = q.1 ∧ RelV p.2 q.2
def kV : Key → V
 | .inl i => .int i
 | .inr x => .str x
inductive HO where
 | lst (xs : List V)
 | tup (xs : List V)
 | dK (kvs : List (Key × V)) | dT (kvs : List (List Key × V))
 | set (S : Int → Bool) (n : Nat)
 | ins (C dx : Addr) (fs : List (Str × V))
 | own (x : Addr)
 | xd (fs : List (Str × V))
 | met (f x : Addr)
 | rng (lo hi : Int)
 | frz (o : Obj) (u : HO)
 | tbl (ps : Array Value)
 | ext (φ : Heap → Prop)
abbrev Hp := Addr → Option HO
def upd (H : Hp) (a : Addr) (o : HO) : Hp := fun b => if b = a then some o else H b
theorem AW {H : Hp} {a : Addr} {o : HO} : upd H a o a = some o := by unfold upd; rw [if_pos rfl]
theorem Ac {H : Hp} {a b : Addr} {o : HO} (h : b ≠ a) : upd H a o b = H b := by unfold upd; rw [if_neg h]
theorem Aq {H : Hp} {a b : Addr} {o : HO} (h : H a = some o) (h' : H b = none) : a ≠ b := by
 intro e; subst e; rw [h] at h'; cases h'
section
variable (P : Program) (w : World)
def Ak (H : Hp) (h : Heap) (a : Addr) : HO → Prop
 | .lst xs => xs.length ≤ sizeLine ∧ ∃ (its : List Value) (n : Nat), AU xs its ∧ h.get? a = some { cls := .type "list", data := .seq its.toArray n }
 | .tup xs => xs.length ≤ sizeLine ∧ ∃ its : List Value, AU xs its ∧ IsTup h a its.toArray
 | .dK kvs => kvs.length ≤ sizeLine ∧ (a == sysModules) = false ∧ ∃ vs, KV kvs vs ∧ h.DictOf (Fw P w) a vs
 | .dT kvs => kvs.length ≤ sizeLine ∧ (a == sysModules) = false ∧ ∃ xs : List (List Key × Addr × Value),
   Paired (fun (p : List Key × V) (q : List Key × Addr × Value) => p.1 = q.1 ∧ H q.2.1 = some (.tup (p.1.map kV)) ∧ RelV p.2 q.2.2) kvs xs ∧
   ∃ o es ep, h.get? a = some o ∧ o.ExactDict ∧ o.data = .dict es ep ∧ es.toList = xs.map (entryOfKey (tupleKind (Fw P w))) ∧ (xs.map (·.1)).Nodup
 | .set S n => h.SetOf (intKind P w) a S n
 | .ins C dx fs => H dx = some (.own a) ∧ fs.length ≤ 1000 ∧ dx ≠ a ∧ h.get? a = some (PySem.W.instObj C dx) ∧
   ∃ mA, h.Ns1 dx mA ∧ (∀ f, JI (fs.lookup f) (mA f)) ∧ PySem.Within mA (fs.map (·.1))
 | .own _ => ∃ o, h.get? a = some o
 | .xd fs => ∃ mA, h.Ns1 a mA ∧ ∀ f, JI (fs.lookup f) (mA f)
 | .rng lo hi => ∃ t u v, h.get? a = some { cls := .type "range", data := .fields #[.int lo t, .int hi u, .int 1 v] }
 | .frz o u => h.get? a = some o ∧ Ak H h a u
 | .tbl ps => h.get? a = some { cls := .none, data := .fields ps }
 | .met f x => h.get? a = some (PySem.W.methodObj (.ref f) (.ref x))
 | .ext φ => φ h ∧ (∃ o, h.get? a = some o) ∧ ∀ h1 h2 : Heap, φ h1 → (∀ o, h1.get? a = some o → h2.get? a = some o) → φ h2
def HOk (H : Hp) (h : Heap) : Prop := ∀ a o, H a = some o → Ak P w H h a o
end
section
variable {P : Program} {w : World} {H H' : Hp} {h h' : Heap} {a : Addr} {o : HO}
theorem Ak.lt (x : Ak P w H h a o) : a < h.objs.size := by
 cases o with
 | lst xs => obtain ⟨_, _, _, _, e⟩ := x; exact Heap.lt_size e
 | tup xs => obtain ⟨_, _, _, p⟩ := x; exact p.lt
 | dK kvs => obtain ⟨_, _, _, _, o, _, _, e, _⟩ := x; exact Heap.lt_size e
 | dT kvs => obtain ⟨_, _, _, _, o, _, _, e, _⟩ := x; exact Heap.lt_size e
 | set S n => obtain ⟨o, _, _, _, e, _⟩ := x; exact Heap.lt_size e
 | ins C dx fs => obtain ⟨_, _, _, e, _⟩ := x; exact Heap.lt_size e
 | own y => obtain ⟨_, e⟩ := x; exact Heap.lt_size e
 | xd fs => obtain ⟨_, ⟨_, _, _, e, _⟩, _⟩ := x; exact Heap.lt_size e
 | rng lo hi => obtain ⟨_, _, _, e⟩ := x; exact Heap.lt_size e
 | frz ob u => obtain ⟨e, _⟩ := x; exact Heap.lt_size e
 | tbl ps => exact Heap.lt_size (show h.get? a = some _ from x)
 | met f y => exact Heap.lt_size (show h.get? a = some _ from x)
 | ext φ => obtain ⟨_, ⟨_, e⟩, _⟩ := x; exact Heap.lt_size e
theorem Paired.mapP {α β : Type} {F G : α → β → Prop} : ∀ {l₁ : List α} {l₂ : List β}, Paired F l₁ l₂ → (∀ a b, F a b → G a b) → Paired G l₁ l₂
 | _, _, .nil, _ => .nil
 | _, _, .cons r t, f => .cons (f _ _ r) (Paired.mapP t f)
theorem Ak.stay (x : Ak P w H h a o) (k : ∀ b u, (b = a ∨ H b = some (.own a)) → h.get? b = some u → h'.get? b = some u)
  (ho : ∀ b, H b = some (.own a) → H' b = some (.own a)) (ht : ∀ b xs, H b = some (.tup xs) → H' b = some (.tup xs)) : Ak P w H' h' a o := by
 induction o with
 | lst xs => obtain ⟨z, its, n, r, e⟩ := x; exact ⟨z, its, n, r, k _ _ (.inl rfl) e⟩
 | tup xs => obtain ⟨z, its, r, ob, e, c⟩ := x; exact ⟨z, its, r, ob, k _ _ (.inl rfl) e, c⟩
 | dK kvs => obtain ⟨z, y, vs, r, ob, es, ep, e, c⟩ := x; exact ⟨z, y, vs, r, ob, es, ep, k _ _ (.inl rfl) e, c⟩
 | dT kvs =>
  obtain ⟨z, y, xs, r, ob, es, ep, e, c⟩ := x
  exact ⟨z, y, xs, Paired.mapP r fun p q z => ⟨z.1, ht _ _ z.2.1, z.2.2⟩, ob, es, ep, k _ _ (.inl rfl) e, c⟩
 | set S n => obtain ⟨ob, es, ep, t, e, c⟩ := x; exact ⟨ob, es, ep, t, k _ _ (.inl rfl) e, c⟩
 | ins C dx fs =>
  obtain ⟨d, z, ne, e, mA, ⟨od, es, ep, e2, c⟩, r⟩ := x
  exact ⟨ho _ d, z, ne, k _ _ (.inl rfl) e, mA, ⟨od, es, ep, k _ _ (.inr d) e2, c⟩, r⟩
 | own y => obtain ⟨ob, e⟩ := x; exact ⟨ob, k _ _ (.inl rfl) e⟩
 | xd fs => obtain ⟨mA, ⟨od, es, ep, e, c⟩, r⟩ := x; exact ⟨mA, ⟨od, es, ep, k _ _ (.inl rfl) e, c⟩, r⟩
 | rng lo hi => obtain ⟨t, u, v, e⟩ := x; exact ⟨t, u, v, k _ _ (.inl rfl) e⟩
 | frz ob u ih => obtain ⟨e, q⟩ := x; exact ⟨k _ _ (.inl rfl) e, ih q⟩
 | tbl ps =>
  have e : h.get? a = some { cls := .none, data := .fields ps } := x
  show h'.get? a = some { cls := .none, data := .fields ps }
  exact k a _ (.inl rfl) e
 | met f y =>
  have e : h.get? a = some (PySem.W.methodObj (.ref f) (.ref y)) := x
  show h'.get? a = some (PySem.W.methodObj (.ref f) (.ref y))
  exact k a _ (.inl rfl) e
 | ext φ => obtain ⟨p, ⟨o, e⟩, st⟩ := x; exact ⟨st _ _ p fun o q => k _ _ (.inl rfl) q, ⟨o, k _ _ (.inl rfl) e⟩, st⟩
theorem HOk.lt (x : HOk P w H h) (e : H a = some o) : a < h.objs.size := (x a o e).lt
theorem HOk.fresh (x : HOk P w H h) (e : h.objs.size ≤ a) : H a = none := by
 cases q : H a with
 | none => rfl
 | some u => exact absurd (Nat.lt_of_lt_of_le (x.lt q) e) (Nat.lt_irrefl _)
theorem HOk.kept (x : HOk P w H h) (k : ∀ b u, h.get? b = some u → h'.get? b = some u) : HOk P w H h' := fun a o e =>
 (x a o e).stay (fun b u _ q => k b u q) (fun _ q => q) fun _ _ q => q
theorem HOk.laid (x : HOk P w H h) (k : ∀ b u, h.get? b = some u → h'.get? b = some u) (hp : h.objs.size ≤ a) (new : Ak P w (upd H a o) h' a o) : HOk P w (upd H a o) h' := fun b u e => by
 have hn := x.fresh hp
 by_cases hb : b = a
 ·subst hb; rw [AW] at e; cases e; exact new
 ·rw [Ac hb] at e
  exact (x b u e).stay (fun c v _ q => k c v q) (fun c q => by rw [Ac (Aq q hn)]; exact q) fun c xs q => by rw [Ac (Aq q hn)]; exact q
end
def Rd (H : Hp) (a : Addr) (u : HO) : Prop := H a = some u ∨ ∃ o, H a = some (.frz o u)
theorem Rd.ok {P : Program} {w : World} {H : Hp} {h : Heap} {a : Addr} {u : HO} (r : Rd H a u) (x : HOk P w H h) : Ak P w H h a u := by
 rcases r with r | ⟨o, r⟩
 ·exact x a u r
 ·obtain ⟨_, q⟩ := x a _ r
  exact q
def Mut : Option HO → Prop
 | some (.lst _) => True
 | some (.dK _) => True
 | some (.dT _) => True
 | some (.set _ _) => True
 | some (.ins _ _ _) => True
 | some (.ext _) => True
 | _ => False
section
variable {P : Program} {w : World} {H : Hp} {h h' : Heap} {x e : Addr} {o' : HO}
theorem HOk.write (ok : HOk P w H h) (mu : Mut (H x)) (he : e = x ∨ H e = some (.own x)) (k : ∀ b u, b ≠ e → h.get? b = some u → h'.get? b = some u) (heo : ∃ u, h'.get? e = some u)
  (new : Ak P w (upd H x o') h' x o') : HOk P w (upd H x o') h' := fun b u q => by
 have nown : ∀ c y, H c = some (.own y) → c ≠ x := fun c y r z => by subst z; rw [r] at mu; exact mu
 have ntup : ∀ c xs, H c = some (.tup xs) → c ≠ x := fun c xs r z => by subst z; rw [r] at mu; exact mu
 by_cases hb : b = x
 ·subst hb; rw [AW] at q; cases q; exact new
 ·rw [Ac hb] at q
  by_cases hbe : b = e
  ·have q' : H b = some (.own x) := by
    rcases he with z | z
    ·exact absurd (hbe.trans z) hb
    ·rw [hbe]; exact z
   rw [q] at q'; cases q'
   obtain ⟨v, hv⟩ := heo
   exact ⟨v, by rw [hbe]; exact hv⟩
  ·refine (ok b u q).stay (fun c v hc r => k c v ?_ r) (fun c r => by rw [Ac (nown c b r)]; exact r) fun c xs r => by rw [Ac (ntup c xs r)]; exact r
   rcases hc with rfl | hc
   ·exact hbe
   ·rintro rfl
    rcases he with z | z
    ·exact nown c b hc z
    ·rw [hc] at z; cases z; exact hb rfl
end
structure Un (fs ex : List Addr) (H H' : Hp) (h h' : Heap) : Prop where
 keep : ∀ b o, h.get? b = some o → H b = none → b ∉ fs → b ∉ ex → h'.get? b = some o
 slot : ∀ b o, h.get? b = some o → H b = none → b ∈ fs → b ∉ ex → ∃ sl, h'.get? b = some { o with slots := sl }
 free : ∀ b o, h.get? b = some o → H b = none → b ∉ ex → H' b = none
 there : ∀ b o, h.get? b = some o → b ∉ ex → ∃ o', h'.get? b = some o'
 tups : ∀ b xs, H b = some (.tup xs) → H' b = some (.tup xs)
 frzs : ∀ b o u, H b = some (.frz o u) → H' b = some (.frz o u)
 tbls : ∀ b ps, H b = some (.tbl ps) → ∃ more, H' b = some (.tbl (ps ++ more))
section
variable {fs fs' ex ex' : List Addr} {H H1 H2 : Hp} {h h1 h2 h' : Heap} {a x e : Addr} {o : HO}
theorem Un.any (u : Un fs ex H H1 h h1) {b : Addr} {ob : Obj} (q : h.get? b = some ob) (n : H b = none) (hx : b ∉ ex) : ∃ sl, h1.get? b = some { ob with slots := sl } := by
 by_cases hb : b ∈ fs
 ·exact u.slot b ob q n hb hx
 ·exact ⟨ob.slots, u.keep b ob q n hb hx⟩
theorem Un.kept (k : ∀ b u, h.get? b = some u → h'.get? b = some u) : Un fs ex H H h h' :=
 ⟨fun b ob q _ _ _ => k b ob q, fun b ob q _ _ _ => ⟨ob.slots, k b ob q⟩, fun _ _ _ n _ => n, fun b ob q _ => ⟨ob, k b ob q⟩, fun _ _ q => q, fun _ _ _ q => q, fun _ ps q => ⟨#[], by rw [q]; simp⟩⟩
theorem Un.refl : Un fs ex H H h h := Un.kept fun _ _ q => q
theorem Un.laid (k : ∀ b u, h.get? b = some u → h'.get? b = some u) (hp : h.objs.size ≤ a) (hn : H a = none) : Un fs ex H (upd H a o) h h' where
 keep := fun b u q _ _ _ => k b u q
 slot := fun b u q _ _ _ => ⟨u.slots, k b u q⟩
 free := fun b u q n _ => by rw [Ac (Nat.ne_of_lt (Nat.lt_of_lt_of_le (Heap.lt_size q) hp))]; exact n
 there := fun b u q _ => ⟨u, k b u q⟩
 tups := fun b xs q => by rw [Ac (Aq q hn)]; exact q
 frzs := fun b u xs q => by rw [Ac (Aq q hn)]; exact q
 tbls := fun b ps q => ⟨#[], by rw [Ac (Aq q hn), q]; simp⟩
theorem Un.write (mu : Mut (H x)) (he : e = x ∨ H e = some (.own x)) (k : ∀ b u, b ≠ e → h.get? b = some u → h'.get? b = some u) (heo : ∃ u, h'.get? e = some u) : Un fs ex H (upd H x o) h h' := by
 have hx : ∀ b, H b = none → b ≠ x := fun b n z => by subst z; rw [n] at mu; exact mu
 have hb : ∀ b, H b = none → b ≠ e := fun b n z => by
  subst z
  rcases he with r | r
  ·exact hx b n r
  ·rw [n] at r; cases r
 have hm : ∀ b u, H b = some u → ¬ Mut (some u) → b ≠ x := fun b u q nm z => by subst z; rw [q] at mu; exact nm mu
 refine ⟨fun b u q n _ _ => k b u (hb b n) q, fun b u q n _ _ => ⟨u.slots, k b u (hb b n) q⟩, fun b u q n _ => by rw [Ac (hx b n)]; exact n, fun b u q _ => ?_,
  fun b xs q => by rw [Ac (hm b _ q fun z => z)]; exact q, fun b u xs q => by rw [Ac (hm b _ q fun z => z)]; exact q, fun b ps q => ⟨#[], by rw [Ac (hm b _ q fun z => z), q]; simp⟩⟩
 by_cases hbe : b = e
 ·subst hbe; exact heo
 ·exact ⟨u, k b u hbe q⟩
end
def trk (h : Heap) (H : Hp) : List Addr := (List.range h.objs.size).filter fun a => (H a).isSome
def En (h : Heap) (H : Hp) : Heap := PySem.W.hideAll h (trk h H)
theorem GM (h : Heap) (H : Hp) : (En h H).objs.size = h.objs.size := PySem.W.hideAll_size _ _
theorem Gm {h : Heap} {H : Hp} {b : Addr} {o : Obj} (e : h.get? b = some o) (n : H b = none) : (En h H).get? b = some o :=
 PySem.W.hideAll_get _ e fun hm => by
  have q : (H b).isSome = true := (List.mem_filter.mp hm).2
  rw [n] at q; simp at q
theorem IB {h : Heap} {H : Hp} {b : Addr} {o : Obj} (e : (En h H).get? b = some o) : h.get? b = some o ∧ H b = none := by
 have e' : h.get? b = some o := PySem.W.of_hideAll (trk h H) e
 refine ⟨e', ?_⟩
 cases q : H b with
 | none => rfl
 | some x =>
  have hm : b ∈ trk h H := List.mem_filter.mpr ⟨List.mem_range.mpr (Heap.lt_size e'), by simp [q]⟩
  have z : (En h H).get? b = none := PySem.W.hideAll_none (trk h H) hm
  rw [z] at e; cases e
end L2
namespace L2
open PySem PySem.Spec PyProof.Rows
structure Mod (K : PySem.W.Frag) (mg : Str → Option Value) (base : Heap) : Prop where
 kin : K.In base
 glob : base.Ns mainGlobals mg
 blt : ∃ mb, base.Ns builtinsNs mb ∧ ∀ x : Str, x ≠ "__name__" → mb x = bootBuiltins x
 nolimit : base.NoLimit
structure Cx where
 prog : Program
 w : World
 K : PySem.W.Frag
 mg : Str → Option Value
 base : Heap
 A : Around
 N : List Str
 s₀ : Shared
 H₀ : Hp
 env : Env
 outer : List Env
 stack : List Env
 ex : List Addr
 fn : Str → Bool
 calm : Bool
 pn : List (Addr × Obj)
 xe : Value → Shared → Prop
def frs (l : List Env) : List Addr := l.filterMap (·.frame)
abbrev Cx.fs (X : Cx) : List Addr := frs X.outer
def Vis (sc : Scope) (x : Str) : Prop := sc.names.lookup x = some .local ∨ sc.names.lookup x = some .cell ∨ sc.names.lookup x = some .free
def Loc (sc : Scope) (x : Str) : Prop := sc.names.lookup x = some .local ∨ sc.names.lookup x = some .cell
def Look (env : Env) (h : Heap) (m : Str → Option Value) (x : Str) (u : Value) : Prop :=
 (env.kindOf x = some .local ∧ m x = some u) ∨ ((env.kindOf x = some .cell ∨ env.kindOf x = some .free) ∧ ∃ c, env.cells.lookup x = some c ∧ h.IsCell c (some u))
structure Cx.Ok (X : Cx) : Prop where
 mod : Mod X.K X.mg X.base
 kind : X.env.scope.kind = .function
 glob : X.env.globals = mainGlobals
 blt : X.env.builtins = builtinsNs
 above : X.s₀.heap.objs.size ≤ X.env.locals
 inj : ∀ x y c, X.env.cells.lookup x = some c → X.env.cells.lookup y = some c → x = y
 has : ∀ x, (X.env.kindOf x = some .cell ∨ X.env.kindOf x = some .free) → ∃ c, X.env.cells.lookup x = some c
 cab : ∀ x c, X.fn x = true → X.env.cells.lookup x = some c → X.s₀.heap.objs.size ≤ c
 hd : X.calm = true → X.A.handled = none
 frames : X.A.frames = some X.stack
 stk : X.stack = X.outer ∨ (X.stack = X.env :: X.outer ∧ X.env.frame = some X.env.locals)
 exf : ∀ b ∈ X.ex, b ≠ X.env.locals ∧ ∀ x c, X.env.cells.lookup x = some c → c ≠ b
 bs : ∀ b o, X.base.get? b = some o → X.s₀.heap.get? b = some o ∧ X.H₀ b = none
 bsz : X.base.objs.size ≤ X.s₀.heap.objs.size
 noex : ∀ b o, X.base.get? b = some o → b ∉ X.ex
 exfs : ∀ b ∈ X.ex, b ∉ X.fs
 funs : X.s₀.heap.FunFrames X.base X.outer
 frf : ∀ b ∈ X.fs, X.H₀ b = none
structure Inv (X : Cx) (pins : List (Addr × Obj)) (σ : List (Option V)) (H : Hp) (s : Shared) : Prop where
 ok : X.Ok
 os : s.os = X.s₀.os
 bare : AllBare s.gens
 base : Un X.fs X.ex X.H₀ H X.s₀.heap s.heap
 loc : ∃ m, s.heap.Ns X.env.locals m ∧ ∀ (i : Nat) (x : Str) (v : V), X.N[i]? = some x → σ[i]? = some (some v) → Vis X.env.scope x → ∃ u, RelV v u ∧ Look X.env s.heap m x u
 cell : ∀ x c, X.env.cells.lookup x = some c → ∃ v, s.heap.IsCell c v
 free : H X.env.locals = none
 freeC : ∀ x c, X.env.cells.lookup x = some c → H c = none
 pin : ∀ p ∈ X.pn ++ pins, s.heap.get? p.1 = some p.2 ∧ H p.1 = none ∧ p.1 ≠ X.env.locals ∧ p.1 ∉ X.fs ∧ ∀ v, p.2.data ≠ .cell v
 hok : HOk X.prog X.w H s.heap
 len : σ.length = X.N.length
section
variable {X : Cx} {pins : List (Addr × Obj)} {σ : List (Option V)} {H H' : Hp} {s : Shared} {h' : Heap}
theorem Cx.Ok.nofr (ok : X.Ok) {b : Addr} {o : Obj} (e : X.base.get? b = some o) : b ∉ X.fs := fun hb => by
 have := (ok.funs.mem hb).1
 rw [e] at this; cases this
theorem Inv.bs (I : Inv X pins σ H s) : ∀ b o, X.base.get? b = some o → s.heap.get? b = some o ∧ H b = none := fun b o e =>
 ⟨I.base.keep b o (I.ok.bs b o e).1 (I.ok.bs b o e).2 (I.ok.nofr e) (I.ok.noex b o e), I.base.free b o (I.ok.bs b o e).1 (I.ok.bs b o e).2 (I.ok.noex b o e)⟩
theorem Inv.bk (I : Inv X pins σ H s) : ∀ b o, X.base.get? b = some o → s.heap.get? b = some o := fun b o e => (I.bs b o e).1
theorem Inv.mod (I : Inv X pins σ H s) : Mod X.K X.mg X.base := I.ok.mod
theorem Inv.kIn (I : Inv X pins σ H s) : X.K.In s.heap := I.ok.mod.kin.keeps I.bk
theorem Inv.lt (I : Inv X pins σ H s) : X.env.locals < s.heap.objs.size := let ⟨_, hn, _⟩ := I.loc; hn.lt
theorem Inv.sz (I : Inv X pins σ H s) : X.s₀.heap.objs.size ≤ s.heap.objs.size := Nat.le_trans I.ok.above (Nat.le_of_lt I.lt)
theorem Inv.nofs (I : Inv X pins σ H s) {a : Addr} (h : s.heap.objs.size ≤ a) : a ∉ X.fs := fun hb => by
 obtain ⟨_, o, ho, _⟩ := I.ok.funs.mem hb
 exact absurd (Nat.lt_of_lt_of_le (Heap.lt_size ho) (Nat.le_trans I.sz h)) (Nat.lt_irrefl _)
theorem Inv.cne (I : Inv X pins σ H s) : ∀ x c, X.env.cells.lookup x = some c → c ≠ X.env.locals := fun x c e z => by
 obtain ⟨v, o, ho, hd⟩ := I.cell x c e
 obtain ⟨m, ⟨o', es, ep, ho', hd', _⟩, _⟩ := I.loc
 rw [z, ho'] at ho; cases ho; rw [hd'] at hd; cases hd
theorem Inv.funs (I : Inv X pins σ H s) : s.heap.FunFrames X.base X.outer := by
 have all : ∀ (l : List Env), (∀ b ∈ frs l, b ∈ X.fs) → X.s₀.heap.FunFrames X.base l → s.heap.FunFrames X.base l := by
  intro l
  induction l with
  | nil => intro _ _; trivial
  | cons env r ih =>
   intro hs hl
   obtain ⟨hk, ⟨L, o, hf, hn, ho, hd⟩, hr⟩ := hl
   have hL : L ∈ X.fs := hs L (by unfold frs; rw [List.filterMap_cons, hf]; exact List.mem_cons_self)
   obtain ⟨sl, e⟩ := I.base.slot L o ho (I.ok.frf L hL) hL fun z => I.ok.exfs L z hL
   exact ⟨hk, ⟨L, _, hf, hn, e, hd⟩, ih (fun b hb => hs b (by unfold frs; rw [List.filterMap_cons, hf]; exact List.mem_cons_of_mem _ hb)) hr⟩
 exact all X.outer (fun _ hb => hb) I.ok.funs
theorem Inv.stack (I : Inv X pins σ H s) : s.heap.FunFrames X.base X.stack := by
 rcases I.ok.stk with e | ⟨e, hf⟩
 ·rw [e]; exact I.funs
 ·rw [e]
  obtain ⟨m, hn, _⟩ := I.loc
  refine .cons (by rw [I.ok.kind]; decide) hf hn ?_ I.funs
  exact Heap.get?_none_of_le (Nat.le_trans I.ok.bsz I.ok.above)
theorem Inv.stkSub (I : Inv X pins σ H s) : ∀ b ∈ frs X.stack, b ∈ X.env.locals :: X.fs := fun b hb => by
 rcases I.ok.stk with e | ⟨e, hf⟩
 ·rw [e] at hb; exact List.mem_cons_of_mem _ hb
 ·rw [e] at hb
  unfold frs at hb
  rw [List.filterMap_cons, hf] at hb
  exact hb
theorem Inv.stkFree (I : Inv X pins σ H s) : ∀ b ∈ frs X.stack, H b = none := fun b hb => by
 rcases List.mem_cons.mp (I.stkSub b hb) with e | hb
 ·rw [e]; exact I.free
 ·obtain ⟨_, o, ho, _⟩ := I.ok.funs.mem hb
  exact I.base.free b o ho (I.ok.frf b hb) fun z => I.ok.exfs b z hb
theorem Inv.step {g' : Array GenState} {t' : Nat} {d' : Drawn} {ch : List Addr} (I : Inv X pins σ H s)
  (hch : ∀ b ∈ ch, (b ∈ X.ex ∨ X.s₀.heap.objs.size ≤ b) ∧ b ≠ X.env.locals ∧ (∀ x c, X.env.cells.lookup x = some c → c ≠ b) ∧ ∀ p ∈ X.pn ++ pins, p.1 ≠ b)
  (keep : ∀ b o, b ≠ X.env.locals → b ∉ X.fs → b ∉ ch → s.heap.get? b = some o → H b = none → h'.get? b = some o)
  (slot : ∀ b o, b ≠ X.env.locals → b ∈ X.fs → b ∉ ch → s.heap.get? b = some o → H b = none → ∃ sl, h'.get? b = some { o with slots := sl }) (free : ∀ b o, b ∉ ch → s.heap.get? b = some o → H b = none → H' b = none)
  (there : ∀ b o, b ∉ ch → s.heap.get? b = some o → ∃ o', h'.get? b = some o')
  (tups : ∀ b xs, H b = some (.tup xs) → H' b = some (.tup xs)) (frzs : ∀ b o u, H b = some (.frz o u) → H' b = some (.frz o u)) (tbls : ∀ b ps, H b = some (.tbl ps) → ∃ more, H' b = some (.tbl (ps ++ more)))
  (ns : ∀ m, s.heap.Ns X.env.locals m → h'.Ns X.env.locals m) (hok : HOk X.prog X.w H' h') (hg : AllBare g') :
  Inv X pins σ H' { s with heap := h', gens := g', drawn := d', toks := t' } := by
 have neL : ∀ b o, X.s₀.heap.get? b = some o → b ≠ X.env.locals := fun b o e => Nat.ne_of_lt (Nat.lt_of_lt_of_le (Heap.lt_size e) I.ok.above)
 have neC : ∀ b o, X.s₀.heap.get? b = some o → b ∉ X.ex → b ∉ ch := fun b o e hx hb => by
  rcases (hch b hb).1 with z | z
  ·exact hx z
  ·exact absurd (Nat.lt_of_lt_of_le (Heap.lt_size e) z) (Nat.lt_irrefl _)
 have cellK : ∀ x c, X.env.cells.lookup x = some c → ∀ v, s.heap.IsCell c v → h'.IsCell c v := fun x c e v ⟨o, ho, hd⟩ => by
  have nch : c ∉ ch := fun z => (hch c z).2.2.1 x c e rfl
  by_cases hc : c ∈ X.fs
  ·obtain ⟨sl, q⟩ := slot c o (I.cne x c e) hc nch ho (I.freeC x c e)
   exact ⟨_, q, hd⟩
  ·exact ⟨o, keep c o (I.cne x c e) hc nch ho (I.freeC x c e), hd⟩
 refine ⟨I.ok, I.os, hg, ⟨fun b o e n hb hx => ?_, fun b o e n hb hx => ?_, fun b o e n hx => ?_, fun b o e hx => ?_, fun b xs e => tups b xs (I.base.tups b xs e), fun b o xs e => frzs b o xs (I.base.frzs b o xs e), fun b ps e => ?_⟩, ?_, fun x c e => ?_, ?_, fun x c e => ?_, fun p hp => ?_, hok, I.len⟩
 ·exact keep b o (neL b o e) hb (neC b o e hx) (I.base.keep b o e n hb hx) (I.base.free b o e n hx)
 ·obtain ⟨sl, e1⟩ := I.base.slot b o e n hb hx
  obtain ⟨sl', e2⟩ := slot b _ (neL b o e) hb (neC b o e hx) e1 (I.base.free b o e n hx)
  exact ⟨sl', e2⟩
 ·obtain ⟨o', e1⟩ := I.base.there b o e hx
  exact free b o' (neC b o e hx) e1 (I.base.free b o e n hx)
 ·obtain ⟨o', e1⟩ := I.base.there b o e hx
  exact there b o' (neC b o e hx) e1
 ·obtain ⟨m1, e1⟩ := I.base.tbls b ps e
  obtain ⟨m2, e2⟩ := tbls b _ e1
  exact ⟨m1 ++ m2, by rw [e2, Array.append_assoc]⟩
 ·obtain ⟨m, hn, hl⟩ := I.loc
  refine ⟨m, ns m hn, fun i x v e1 e2 e3 => ?_⟩
  obtain ⟨u, r, l⟩ := hl i x v e1 e2 e3
  refine ⟨u, r, ?_⟩
  rcases l with l | ⟨k, c, e, z⟩
  ·exact .inl l
  ·exact .inr ⟨k, c, e, cellK x c e _ z⟩
 ·obtain ⟨v, z⟩ := I.cell x c e
  exact ⟨v, cellK x c e v z⟩
 ·obtain ⟨m, ⟨o, _, _, ho, _⟩, _⟩ := I.loc
  exact free _ o (fun z => (hch _ z).2.1 rfl) ho I.free
 ·obtain ⟨v, o, ho, hd⟩ := I.cell x c e
  exact free c o (fun z => (hch c z).2.2.1 x c e rfl) ho (I.freeC x c e)
 ·obtain ⟨e, n, ne, nf, d⟩ := I.pin p hp
  have nch : p.1 ∉ ch := fun z => (hch p.1 z).2.2.2 p hp rfl
  exact ⟨keep p.1 p.2 ne nf nch e n, free p.1 p.2 nch e n, ne, nf, d⟩
theorem Inv.un {t' : Nat} (I : Inv X pins σ H s) (u : Un X.fs [] H H' s.heap h') (hok : HOk X.prog X.w H' h') : Inv X pins σ H' { s with heap := h', toks := t' } := by
 obtain ⟨m, ⟨o, es, ep, ho, r⟩, _⟩ := id I.loc
 obtain ⟨sl, hL⟩ := u.any ho I.free (by simp)
 exact I.step (g' := s.gens) (d' := s.drawn) (ch := []) (fun _ z => nomatch z) (fun b o _ hb _ e n => u.keep b o e n hb (by simp)) (fun b o _ hb _ e n => u.slot b o e n hb (by simp)) (fun b o _ e n => u.free b o e n (by simp)) (fun b o _ e => u.there b o e (by simp)) u.tups u.frzs u.tbls (fun m' hm => by
  obtain ⟨o', es', ep', ho', r'⟩ := hm
  rw [ho] at ho'; cases ho'
  exact ⟨_, es', ep', hL, r'⟩) hok I.bare
theorem Inv.call {g' : Array GenState} {t' : Nat} {d' : Drawn} {ch : List Addr} (I : Inv X pins σ H s) (u : Un (frs X.stack) ch H H' s.heap h') (hok : HOk X.prog X.w H' h') (hg : AllBare g')
  (hch : ∀ b ∈ ch, (b ∈ X.ex ∨ X.s₀.heap.objs.size ≤ b) ∧ b ≠ X.env.locals ∧ (∀ x c, X.env.cells.lookup x = some c → c ≠ b) ∧ ∀ p ∈ X.pn ++ pins, p.1 ≠ b) :
  Inv X pins σ H' { s with heap := h', gens := g', drawn := d', toks := t' } := by
 obtain ⟨m, ⟨o, es, ep, ho, r⟩, _⟩ := id I.loc
 obtain ⟨sl, hL⟩ := u.any ho I.free fun z => (hch _ z).2.1 rfl
 exact I.step (ch := ch) hch (fun b o hL hb hc e n => u.keep b o e n (fun z => (List.mem_cons.mp (I.stkSub b z)).elim hL hb) hc) (fun b o _ _ hc e n => u.any e n hc) (fun b o hc e n => u.free b o e n hc) (fun b o hc e => u.there b o e hc) u.tups u.frzs u.tbls (fun m' hm => by
  obtain ⟨o', es', ep', ho', r'⟩ := hm
  rw [ho] at ho'; cases ho'
  exact ⟨_, es', ep', hL, r'⟩) hok hg
theorem Inv.turned {t' : Nat} {it : Addr} (I : Inv X pins σ H s) (k : ∀ b o, b ≠ it → s.heap.get? b = some o → h'.get? b = some o) (hn : H it = none) (hL : it ≠ X.env.locals)
  (h1 : it ∈ X.ex ∨ X.s₀.heap.objs.size ≤ it) (h2 : ∀ x c, X.env.cells.lookup x = some c → c ≠ it) (h3 : ∀ p ∈ X.pn ++ pins, p.1 ≠ it) : Inv X pins σ H { s with heap := h', toks := t' } := by
 have nit : ∀ b u, H b = some u → b ≠ it := fun b u e z => by rw [z, hn] at e; cases e
 refine I.step (g' := s.gens) (d' := s.drawn) (ch := [it]) (fun b hb => ?_) (fun b o _ _ hc e _ => k b o (fun z => hc (by simp [z])) e) (fun b o _ _ hc e _ => ⟨o.slots, k b o (fun z => hc (by simp [z])) e⟩) (fun _ _ _ _ n => n)
  (fun b o hc e => ⟨o, k b o (fun z => hc (by simp [z])) e⟩) (fun _ _ e => e) (fun _ _ _ e => e) (fun b ps e => ⟨#[], by rw [e]; simp⟩) (fun m hm => ?_) (fun b u e => ?_) I.bare
 ·have e : b = it := by simpa using hb
  subst e
  exact ⟨h1, hL, h2, h3⟩
 ·obtain ⟨o, es, ep, ho, r⟩ := hm
  exact ⟨o, es, ep, k _ o (Ne.symm hL) ho, r⟩
 ·refine (I.hok b u e).stay (fun c v hc q => k c v ?_ q) (fun _ q => q) fun _ _ q => q
  rcases hc with z | z
  ·rw [z]; exact nit b u e
  ·exact nit c _ z
theorem Inv.tok (I : Inv X pins σ H s) (t : Nat) : Inv X pins σ H { s with toks := t } := I.un (h' := s.heap) (t' := t) Un.refl I.hok
theorem Inv.kept {t' : Nat} (I : Inv X pins σ H s) (k : ∀ b u, s.heap.get? b = some u → h'.get? b = some u) : Inv X pins σ H { s with heap := h', toks := t' } := I.un (Un.kept k) (I.hok.kept k)
theorem Inv.laid {a : Addr} {o : HO} {t' : Nat} (I : Inv X pins σ H s) (k : ∀ b u, s.heap.get? b = some u → h'.get? b = some u) (hp : s.heap.objs.size ≤ a) (new : Ak X.prog X.w (upd H a o) h' a o) :
  Inv X pins σ (upd H a o) { s with heap := h', toks := t' } := I.un (Un.laid k hp (I.hok.fresh hp)) (I.hok.laid k hp new)
theorem Inv.write {x e : Addr} {o : HO} {t' : Nat} (I : Inv X pins σ H s) (mu : Mut (H x)) (he : e = x ∨ H e = some (.own x)) (k : ∀ b u, b ≠ e → s.heap.get? b = some u → h'.get? b = some u) (heo : ∃ u, h'.get? e = some u)
  (new : Ak X.prog X.w (upd H x o) h' x o) : Inv X pins σ (upd H x o) { s with heap := h', toks := t' } := I.un (Un.write mu he k heo) (I.hok.write mu he k heo new)
theorem Inv.pins_of {pins' : List (Addr × Obj)} (I : Inv X pins σ H s) (h : ∀ p ∈ pins', s.heap.get? p.1 = some p.2 ∧ H p.1 = none ∧ p.1 ≠ X.env.locals ∧ p.1 ∉ X.fs ∧ ∀ v, p.2.data ≠ .cell v) : Inv X pins' σ H s :=
 ⟨I.ok, I.os, I.bare, I.base, I.loc, I.cell, I.free, I.freeC, fun p hp => (List.mem_append.mp hp).elim (fun z => I.pin p (List.mem_append_left _ z)) (h p), I.hok, I.len⟩
theorem FN {N : List Str} (hN : N.Nodup) {i j : Nat} {x : Str} (a : N[i]? = some x) (b : N[j]? = some x) : i = j := by
 obtain ⟨h1, e1⟩ := List.getElem?_eq_some_iff.mp a
 obtain ⟨h2, e2⟩ := List.getElem?_eq_some_iff.mp b
 exact (List.getElem_inj hN).mp (e1.trans e2.symm)
theorem GR {M : Model} {A : Around} {E : Value → Shared → Prop} {i : Nat} {x : Str} {v : V} {u : Value} {Q : Unit → Shared → Prop} (I : Inv X pins σ H s) (hN : X.N.Nodup) (hi : X.N[i]? = some x) (hx : Loc X.env.scope x) (r : RelV v u)
  (h : ∀ s', Inv X pins (σ.set i (some v)) H s' → (∃ a, Heap.SameBut a s.heap s'.heap ∧ (a = X.env.locals ∨ X.env.cells.lookup x = some a)) → Q () s') (hf : X.fn x = true ∨ X.env.scope.names.lookup x = some .local := by first | exact .inl rfl | exact .inr rfl | assumption) : wpAny M A (storeName X.env x u) Q E s := by
 obtain ⟨m, hn, hl⟩ := id I.loc
 have hcls : (X.env.scope.kind == .class || (X.env.scope.kind == .module && X.env.locals != X.env.globals)) = false := by rw [I.ok.kind]; rfl
 have hiσ : i < σ.length := by rw [I.len]; exact (List.getElem?_eq_some_iff.mp hi).1
 have cne := I.cne
 have tracked : ∀ {a : Addr} {h' : Heap}, (∃ o, s.heap.get? a = some o ∧ H a = none) → Heap.SameBut a s.heap h' → HOk X.prog X.w H h' := fun {a h'} ha hs b ob e => by
  obtain ⟨_, _, hfree⟩ := ha
  refine (I.hok b ob e).stay (fun c w' hc q => (hs.2 c ?_).trans q) (fun _ q => q) fun _ _ q => q
  rintro rfl
  rcases hc with rfl | hc
  ·rw [hfree] at e; cases e
  ·rw [hfree] at hc; cases hc
 rcases hx with hk | hk
 ·refine wpAny_storeName_local hk hn (fun h' hn' hs => ?_) hcls
  obtain ⟨oL, _, _, hoL, _⟩ := id hn
  refine h _ ⟨I.ok, I.os, I.bare, ⟨fun b o e n hb hx => ?_, fun b o e n hb hx => ?_, I.base.free, fun b o e hx => ?_, I.base.tups, I.base.frzs, I.base.tbls⟩, ⟨_, hn', fun j y v' e1 e2 e3 => ?_⟩, fun y c e => ?_, I.free, I.freeC, fun p hp => ?_, tracked ⟨oL, hoL, I.free⟩ hs, by simpa using I.len⟩ ⟨_, hs, .inl rfl⟩
  ·exact (hs.2 b (Nat.ne_of_lt (Nat.lt_of_lt_of_le (Heap.lt_size e) I.ok.above))).trans (I.base.keep b o e n hb hx)
  ·obtain ⟨sl, e1⟩ := I.base.slot b o e n hb hx
   exact ⟨sl, (hs.2 b (Nat.ne_of_lt (Nat.lt_of_lt_of_le (Heap.lt_size e) I.ok.above))).trans e1⟩
  ·obtain ⟨o', e1⟩ := I.base.there b o e hx
   exact ⟨o', (hs.2 b (Nat.ne_of_lt (Nat.lt_of_lt_of_le (Heap.lt_size e) I.ok.above))).trans e1⟩
  ·by_cases hj : j = i
   ·subst hj
    rw [hi] at e1; cases e1
    rw [List.getElem?_set_self hiσ] at e2
    cases e2
    exact ⟨u, r, .inl ⟨hk, by simp⟩⟩
   ·rw [List.getElem?_set_ne (Ne.symm hj)] at e2
    obtain ⟨u', r', q⟩ := hl j y v' e1 e2 e3
    refine ⟨u', r', ?_⟩
    rcases q with ⟨k, e⟩ | ⟨k, c, e, z⟩
    ·refine .inl ⟨k, ?_⟩
     have : y ≠ x := fun e => hj (FN hN e1 (e ▸ hi))
     simp [this, e]
    ·exact .inr ⟨k, c, e, z.sameBut hs (cne y c e)⟩
  ·obtain ⟨w', z⟩ := I.cell y c e
   exact ⟨w', z.sameBut hs (cne y c e)⟩
  ·obtain ⟨e, n, ne, nf, d⟩ := I.pin p hp
   exact ⟨(hs.2 p.1 ne).trans e, n, ne, nf, d⟩
 ·have hfn : X.fn x = true := by
   rcases hf with z | z
   ·exact z
   ·rw [z] at hk; cases hk
  obtain ⟨c, hc⟩ := I.ok.has x (.inl hk)
  obtain ⟨w', z⟩ := I.cell x c hc
  refine wpAny_storeName_cell I.ok.kind hk hc z (fun h' hc' hs => ?_)
  obtain ⟨oc, hoc, hocd⟩ := id z
  refine h { s with heap := h' } ⟨I.ok, I.os, I.bare, ⟨fun b o e n hb hx => ?_, fun b o e n hb hx => ?_, I.base.free, fun b o e hx => ?_, I.base.tups, I.base.frzs, I.base.tbls⟩, ⟨m, hn.sameBut hs (Ne.symm (cne x c hc)), fun j y v' e1 e2 e3 => ?_⟩, fun y c' e => ?_, I.free, I.freeC, fun p hp => ?_, tracked ⟨oc, hoc, I.freeC x c hc⟩ hs, by simpa using I.len⟩ ⟨c, hs, .inr hc⟩
  ·exact (hs.2 b (Nat.ne_of_lt (Nat.lt_of_lt_of_le (Heap.lt_size e) (I.ok.cab x c hfn hc)))).trans (I.base.keep b o e n hb hx)
  ·obtain ⟨sl, e1⟩ := I.base.slot b o e n hb hx
   exact ⟨sl, (hs.2 b (Nat.ne_of_lt (Nat.lt_of_lt_of_le (Heap.lt_size e) (I.ok.cab x c hfn hc)))).trans e1⟩
  ·obtain ⟨o', e1⟩ := I.base.there b o e hx
   exact ⟨o', (hs.2 b (Nat.ne_of_lt (Nat.lt_of_lt_of_le (Heap.lt_size e) (I.ok.cab x c hfn hc)))).trans e1⟩
  ·by_cases hj : j = i
   ·subst hj
    rw [hi] at e1; cases e1
    rw [List.getElem?_set_self hiσ] at e2
    cases e2
    exact ⟨u, r, .inr ⟨.inl hk, c, hc, hc'⟩⟩
   ·rw [List.getElem?_set_ne (Ne.symm hj)] at e2
    obtain ⟨u', r', q⟩ := hl j y v' e1 e2 e3
    refine ⟨u', r', ?_⟩
    rcases q with q | ⟨k, c', e, z'⟩
    ·exact .inl q
    ·refine .inr ⟨k, c', e, z'.sameBut hs ?_⟩
     rintro rfl
     exact hj (FN hN e1 (I.ok.inj _ _ _ e hc ▸ hi))
  ·by_cases hcc : c' = c
   ·subst hcc; exact ⟨_, hc'⟩
   ·obtain ⟨w2, z2⟩ := I.cell y c' e
    exact ⟨w2, z2.sameBut hs hcc⟩
  ·obtain ⟨e, n, ne, nf, d⟩ := I.pin p hp
   refine ⟨(hs.2 p.1 ?_).trans e, n, ne, nf, d⟩
   intro q
   rw [q, hoc] at e
   have q' : oc = p.2 := Option.some.inj e
   exact d w' (by rw [← q']; exact hocd)
theorem Ci {M : Model} {A : Around} {E : Value → Shared → Prop} {i : Nat} {x : Str} {v : V} {u : Value} {Q : Unit → Shared → Prop} (I : Inv X pins σ H s) (hN : X.N.Nodup) (hi : X.N[i]? = some x) (hx : Loc X.env.scope x) (r : RelV v u)
  (h : ∀ s', Inv X pins (σ.set i (some v)) H s' → Q () s') (hf : X.fn x = true ∨ X.env.scope.names.lookup x = some .local := by first | exact .inl rfl | exact .inr rfl | assumption) : wpAny M A (storeName X.env x u) Q E s :=
 GR I hN hi hx r (fun s' I' _ => h s' I') hf
theorem Inv.call' {s' : Shared} {ch : List Addr} (I : Inv X pins σ H s) (ho : s'.os = s.os) (u : Un (frs X.stack) ch H H' s.heap s'.heap) (hok : HOk X.prog X.w H' s'.heap) (hg : AllBare s'.gens)
  (hch : ∀ b ∈ ch, (b ∈ X.ex ∨ X.s₀.heap.objs.size ≤ b) ∧ b ≠ X.env.locals ∧ (∀ x c, X.env.cells.lookup x = some c → c ≠ b) ∧ ∀ p ∈ X.pn ++ pins, p.1 ≠ b) : Inv X pins σ H' s' := by
 obtain ⟨h', g', d', t', o'⟩ := s'
 have e : o' = s.os := ho
 subst e
 exact I.call (g' := g') (t' := t') (d' := d') u hok hg hch
end
abbrev XK := Value → Option Addr → Hp → Prop
abbrev St := List (Option V)
abbrev VK := V → Hp → Prop
abbrev TE := St → Hp → VK → Prop
abbrev TT := St → Hp → (Bool → Hp → Prop) → Prop
abbrev TA := St → Hp → (List V → Hp → Prop) → Prop
structure DF where
 nx : St → Hp → Prop
 rt : VK
 bk : St → Hp → Prop := fun _ _ => False
 ct : St → Hp → Prop := fun _ _ => False
abbrev TS := DF → St → Hp → Prop
def EP (X : Cx) (pins : List (Addr × Obj)) (σ : St) (Q : VK) (u : Value) (s' : Shared) : Prop := ∃ v H', Inv X pins σ H' s' ∧ RelV v u ∧ Q v H'
def TP (X : Cx) (pins : List (Addr × Obj)) (σ : St) (Q : Bool → Hp → Prop) (b : Bool) (s' : Shared) : Prop := ∃ H', Inv X pins σ H' s' ∧ Q b H'
def AP (X : Cx) (pins : List (Addr × Obj)) (σ : St) (Q : List V → Hp → Prop) (us : List Value) (s' : Shared) : Prop := ∃ vs H', Inv X pins σ H' s' ∧ AU vs us ∧ Q vs H'
def SP (X : Cx) (pins : List (Addr × Obj)) (D : DF) (f : Flow) (s' : Shared) : Prop :=
 match f with
 | .next => ∃ σ' H', Inv X pins σ' H' s' ∧ D.nx σ' H'
 | .brk => ∃ σ' H', Inv X pins σ' H' s' ∧ D.bk σ' H'
 | .cont => ∃ σ' H', Inv X pins σ' H' s' ∧ D.ct σ' H'
 | .ret u => ∃ v σ' H', Inv X pins σ' H' s' ∧ RelV v u ∧ D.rt v H'
def PE (X : Cx) (e : Expr) (t : TE) : Prop :=
 ∀ (pins : List (Addr × Obj)) (s : Shared) (σ : St) (H : Hp) (Q : VK), Inv X pins σ H s → t σ H Q → wpAny (model X.prog X.w) X.A (eval e X.env) (EP X pins σ Q) X.xe s
def PT (X : Cx) (e : Expr) (t : TT) : Prop :=
 ∀ (pins : List (Addr × Obj)) (s : Shared) (σ : St) (H : Hp) (Q : Bool → Hp → Prop), Inv X pins σ H s → t σ H Q → wpAny (model X.prog X.w) X.A (isTrue e X.env (eval e X.env)) (TP X pins σ Q) X.xe s
def PW (X : Cx) (e : Expr) (t : TT) : Prop :=
 ∀ (whole : Sem Value) (pins : List (Addr × Obj)) (s : Shared) (σ : St) (H : Hp) (Q : Bool → Hp → Prop), Inv X pins σ H s → t σ H Q → wpAny (model X.prog X.w) X.A (isTrue e X.env whole) (TP X pins σ Q) X.xe s
theorem PW.pt {X : Cx} {e : Expr} {t : TT} (h : PW X e t) : PT X e t := h _
def PA (X : Cx) (es : List Expr) (t : TA) : Prop :=
 ∀ (pos : Pos) (pins : List (Addr × Obj)) (s : Shared) (σ : St) (H : Hp) (Q : List V → Hp → Prop), Inv X pins σ H s → t σ H Q → wpAny (model X.prog X.w) X.A (spliced (backTo pos (starEach es X.env))) (AP X pins σ Q) X.xe s
def PS (X : Cx) (st : Stmt) (t : TS) : Prop :=
 ∀ (pins : List (Addr × Obj)) (s : Shared) (σ : St) (H : Hp) (D : DF), Inv X pins σ H s → t D σ H → wpAny (model X.prog X.w) X.A (exec st X.env) (SP X pins D) X.xe s
def PSs (X : Cx) (st : List Stmt) (t : TS) : Prop :=
 ∀ (pins : List (Addr × Obj)) (s : Shared) (σ : St) (H : Hp) (D : DF), Inv X pins σ H s → t D σ H → wpAny (model X.prog X.w) X.A (execs st X.env) (SP X pins D) X.xe s
theorem thn {α : Type} {t : Sem α} {Q Q' : α → Shared → Prop} {M : Model} {A : Around} {E : Value → Shared → Prop} {s : Shared} (h : wpAny M A t Q E s) (hQ : ∀ a s, Q a s → Q' a s) : wpAny M A t Q' E s := wpAny_mono h hQ fun _ _ x => x
end L2
namespace L2
open PySem PySem.Spec PyProof.Rows
section
variable {X : Cx}
def Dt (i : Nat) : TE := fun σ H Q => ∃ v, σ[i]? = some (some v) ∧ Q v H
def tC (v : V) : TE := fun _ H Q => Q v H
theorem Is {i : Nat} {x : Str} {pos : Pos} (hN : X.N[i]? = some x) (hv : Vis X.env.scope x) (hd : (x == ("__debug__" : Str)) = false := by decide) (hcd : (x == ("__classdict__" : Str)) = false := by decide) : PE X (.Name x pos) (Dt i) := by
 intro pins s σ H Q I h
 obtain ⟨v, e, h⟩ := h
 obtain ⟨m, hn, hl⟩ := I.loc
 obtain ⟨u, r, l⟩ := hl i x v hN e hv
 have fin : EP X pins σ Q u s := ⟨v, H, I, r, h⟩
 rcases l with ⟨hk, hm⟩ | ⟨hk, c, hc, hcell⟩
 ·exact wpAny_Name (wpAny_loadName_local I.ok.kind hk hn hm fin) hd
 ·rcases hk with hk | hk
  ·exact wpAny_Name (wpAny_loadName_cell I.ok.kind hk hc hcell fin) hd
  ·exact wpAny_Name (wpAny_loadName_free I.ok.kind hk hc hcell fin hcd) hd
theorem AI {i j pos} : PE X (.Constant (.int i) j pos) (tC (.int i)) := fun _ _ _ H _ I h => wpAny_Constant_int ⟨.int i, H, I.tok _, ⟨_, rfl⟩, h⟩
theorem CP {b j pos} : PE X (.Constant (.bool b) j pos) (tC (.bl b)) := fun _ _ _ H _ I h => Constant_bool ⟨.bl b, H, I, rfl, h⟩
theorem AQ {x j pos} : PE X (.Constant (.str x) j pos) (tC (.str x)) := fun _ _ _ H _ I h => Calls.Constant_str ⟨.str x, H, I.tok _, ⟨_, rfl⟩, h⟩
def Gl (X : Cx) (x : Str) : Prop := X.env.kindOf x = some .globalImplicit
theorem Co {E : Value → Shared → Prop} {pins : List (Addr × Obj)} {s : Shared} {σ : St} {H : Hp} {x : Str} {u : Value} {pos : Pos} {Q : Value → Shared → Prop} (I : Inv X pins σ H s) (hg : Gl X x) (hm : X.mg x = some u) (h : Q u s)
  (hd : (x == ("__debug__" : Str)) = false := by decide) : wpAny (model X.prog X.w) X.A (eval (.Name x pos) X.env) Q E s :=
 Calls.Name_function_global I.ok.kind hg (Calls.loadGlobal_global (by rw [I.ok.glob]; exact I.mod.glob.keeps I.bk) hm h) hd
theorem EV {E : Value → Shared → Prop} {pins : List (Addr × Obj)} {s : Shared} {σ : St} {H : Hp} {x : Str} {u : Value} {pos : Pos} {Q : Value → Shared → Prop} (I : Inv X pins σ H s) (hg : Gl X x) (hm : X.mg x = none) (hv : bootBuiltins x = some u) (h : Q u s)
  (hn : x ≠ "__name__" := by decide) (hd : (x == ("__debug__" : Str)) = false := by decide) : wpAny (model X.prog X.w) X.A (eval (.Name x pos) X.env) Q E s := by
 obtain ⟨mb, h1, h2⟩ := I.mod.blt
 exact Calls.Name_function_global I.ok.kind hg (Calls.loadGlobal_builtin (by rw [I.ok.glob]; exact I.mod.glob.keeps I.bk) hm (by rw [I.ok.blt]; exact h1.keeps I.bk) ((h2 x hn).trans hv) h) hd
theorem Fq {x : Str} {v : V} {u : Value} {pos : Pos} (hg : Gl X x) (hm : X.mg x = some u) (r : RelV v u) (hd : (x == ("__debug__" : Str)) = false := by decide) : PE X (.Name x pos) (tC v) :=
 fun _ _ _ H _ I h => Co I hg hm ⟨v, H, I, r, h⟩ hd
theorem DQ {x : Str} {v : V} {u : Value} {pos : Pos} (hg : Gl X x) (hm : X.mg x = none) (hv : bootBuiltins x = some u) (r : RelV v u) (hn : x ≠ "__name__" := by decide) (hd : (x == ("__debug__" : Str)) = false := by decide) : PE X (.Name x pos) (tC v) :=
 fun _ _ _ H _ I h => EV I hg hm hv ⟨v, H, I, r, h⟩ hn hd
variable {a b : Expr} {ta tb : TE} {pos : Pos}
def tB (t : TE) : TT := fun σ H Q => t σ H fun x H1 => ∃ c, x = .bl c ∧ Q c H1
theorem BW {e : Expr} {t : TE} (h : PE X e t) (he : ∀ whole, isTrue e X.env whole = (do let v ← whole; standAt e.pos; holding [v] (truthy v)) := by intro _; rfl) : PT X e (tB t) := by
 intro pins s σ H Q I hw
 refine isTrue_plain (thn (h pins s σ H _ I hw) fun v s1 ⟨x, H1, I1, r1, q1⟩ => ?_) (he _)
 obtain ⟨d, rfl, q⟩ := q1
 cases r1
 exact wpAny_truthy_bool ⟨H1, I1, q⟩
variable {tA tB' : TT} {rest : List Expr}
def E3 (t u : TT) : TT := fun σ H Q => t σ H fun c H1 => if c = true then u σ H1 Q else Q false H1
def tOr (t u : TT) : TT := fun σ H Q => t σ H fun c H1 => if c = true then Q true H1 else u σ H1 Q
def D4 (t : TT) : TT := fun σ H Q => t σ H fun c H1 => Q (!c) H1
theorem CT (ha : PT X a tA) : PW X (.BoolOp .Or [a] pos) tA := by
 intro wh pins s σ H Q I h
 refine isTrue_or (thn (ha pins s σ H Q I h) fun c s1 e => ?_)
 cases c with
 | false => exact isTrue_or_nil e
 | true => exact e
theorem Du (ha : PT X a tA) (hb : PW X (.BoolOp .Or (b :: rest) pos) tB') : PW X (.BoolOp .Or (a :: b :: rest) pos) (tOr tA tB') := by
 intro wh pins s σ H Q I h
 refine isTrue_or (thn (ha pins s σ H _ I h) fun c s1 ⟨H1, I1, q1⟩ => ?_)
 cases c with
 | true => exact ⟨H1, I1, q1⟩
 | false => exact hb wh pins s1 σ H1 Q I1 q1
theorem B0 (ha : PT X a tA) : PT X (.UnaryOp .Not a pos) (D4 tA) := by
 intro pins s σ H Q I h
 exact isTrue_not (ha pins s σ H (fun c H1 => Q (!c) H1) I h)
def B8 (ta tb : TE) : TE := fun σ H Q => ta σ H fun x H1 => ∃ c, x = .bl c ∧ if c = true then tb σ H1 Q else Q (.bl false) H1
def Er (ta tb : TE) : TE := fun σ H Q => ta σ H fun x H1 => ∃ c, x = .bl c ∧ if c = true then Q (.bl true) H1 else tb σ H1 Q
def CO (ta : TE) : TE := fun σ H Q => ta σ H fun x H1 => ∃ c, x = .bl c ∧ Q (.bl (!c)) H1
theorem Iy {op} {t : TE} (h : PE X a t) : PE X (.BoolOp op [a] pos) t := fun pins s σ H Q I hw => BoolOp_one (h pins s σ H Q I hw)
theorem IV (ha : PE X a ta) (hb : PE X (.BoolOp .And (b :: rest) pos) tb) : PE X (.BoolOp .And (a :: b :: rest) pos) (B8 ta tb) := by
 intro pins s σ H Q I h
 refine BoolOp_and (thn (ha pins s σ H _ I h) fun v s1 ⟨x, H1, I1, r1, q1⟩ => ?_)
 obtain ⟨c, rfl, q1⟩ := q1
 cases r1
 refine wpAny_truthy_bool ?_
 cases c with
 | true => exact hb pins s1 σ H1 Q I1 q1
 | false => exact ⟨.bl false, H1, I1, rfl, q1⟩
theorem Fd (ha : PE X a ta) : PE X (.UnaryOp .Not a pos) (CO ta) := by
 intro pins s σ H Q I h
 refine UnaryOp_ (thn (ha pins s σ H _ I h) fun v s1 ⟨x, H1, I1, r1, q1⟩ => ?_)
 obtain ⟨c, rfl, q1⟩ := q1
 cases r1
 exact not_of (wpAny_truthy_bool ⟨.bl (!c), H1, I1, rfl, q1⟩)
def tIf (t : TT) (ta tb : TE) : TE := fun σ H Q => t σ H fun c H1 => if c = true then ta σ H1 Q else tb σ H1 Q
end
end L2
namespace L2
open PySem PySem.Spec PyProof.Rows
def SqL (K : PySem.W.Frag) (H : Hp) (a : Addr) (xs : List V) : Prop :=
 Rd H a (.lst xs) ∨
  ∃ (o : Obj) (its : Array Value) (n : Nat), K.lookup a = some o ∧ o.cls = .type "list" ∧ o.dict = none ∧ o.data = .seq its n ∧ its.size ≤ sizeLine ∧ AU xs its.toList
def SqT (K : PySem.W.Frag) (H : Hp) (a : Addr) (xs : List V) : Prop :=
 Rd H a (.tup xs) ∨
  ∃ (o : Obj) (its : Array Value) (n : Nat), K.lookup a = some o ∧ o.cls = .type "tuple" ∧ o.data = .seq its n ∧ its.size ≤ sizeLine ∧ AU xs its.toList
def absV : Value → Option V
 | .none => some .non
 | .bool b => some (.bl b)
 | .int i _ => some (.int i)
 | .str x _ => some (.str x)
 | .bytes b _ => some (.byt b)
 | .float b _ => some (.flt b)
 | .ref a => some (.ref a)
 | .type n => some (.ty n)
 | _ => none
theorem RelV.abs {x : V} {u : Value} (r : RelV x u) : absV u = some x := by
 cases x with
 | non => cases r; rfl
 | bl _ => cases r; rfl
 | int _ => obtain ⟨t, rfl⟩ := r; rfl
 | str _ => obtain ⟨t, rfl⟩ := r; rfl
 | byt _ => obtain ⟨t, rfl⟩ := r; rfl
 | flt _ => obtain ⟨t, rfl⟩ := r; rfl
 | ref _ => cases r; rfl
 | ty _ => cases r; rfl
theorem RelV.inj {x y : V} {u : Value} (r : RelV x u) (q : RelV y u) : x = y := Option.some.inj (r.abs.symm.trans q.abs)
theorem AU.inj : ∀ {xs ys : List V} {us : List Value}, AU xs us → AU ys us → xs = ys
 | _, _, _, .nil, .nil => rfl
 | _, _, _, .cons r t, .cons r' t' => by rw [r.inj r', AU.inj t t']
section
variable {X : Cx} {pins : List (Addr × Obj)} {σ : St} {H : Hp} {s : Shared} {a : Addr} {xs ys : List V}
theorem SqL.of {K : PySem.W.Frag} (h : H a = some (.lst xs)) : SqL K H a xs := .inl (.inl h)
theorem SqT.of {K : PySem.W.Frag} (h : H a = some (.tup xs)) : SqT K H a xs := .inl (.inl h)
theorem Inv.list (I : Inv X pins σ H s) (h : SqL X.K H a xs) : ∃ its : List Value, AU xs its ∧ PlainL s.heap a its.toArray ∧ xs.length ≤ sizeLine := by
 rcases h with h | ⟨o, its, n, hk, hc, hd, hs, hz, r⟩
 ·obtain ⟨z, its, n, r, e⟩ := h.ok I.hok
  exact ⟨its, r, ⟨_, n, e, rfl, rfl, rfl⟩, z⟩
 ·refine ⟨its.toList, r, ⟨o, n, I.kIn a o hk, hc, hd, by simpa using hs⟩, ?_⟩
  have e := r.length
  simp only [Array.length_toList] at e
  omega
theorem Inv.tuple (I : Inv X pins σ H s) (h : SqT X.K H a xs) : ∃ its : List Value, AU xs its ∧ IsTup s.heap a its.toArray ∧ xs.length ≤ sizeLine := by
 rcases h with h | ⟨o, its, n, hk, hc, hs, hz, r⟩
 ·obtain ⟨z, its, r, p⟩ := h.ok I.hok
  exact ⟨its, r, p, z⟩
 ·refine ⟨its.toList, r, ⟨o, I.kIn a o hk, hc, n, by simpa using hs⟩, ?_⟩
  have e := r.length
  simp only [Array.length_toList] at e
  omega
theorem Inv.tuple_inj (I : Inv X pins σ H s) (h : SqT X.K H a xs) (h' : SqT X.K H a ys) : xs = ys := by
 obtain ⟨its, r, ⟨o, e, _, n, d⟩, _⟩ := I.tuple h
 obtain ⟨its', r', ⟨o', e', _, n', d'⟩, _⟩ := I.tuple h'
 rw [e] at e'; cases e'
 rw [d] at d'
 injection d' with d1 _
 have : its = its' := by simpa using congrArg Array.toList d1
 subst this
 exact r.inj r'
end
abbrev Cx.wish (X : Cx) (E : Value → Shared → Prop) : Cx := { X with xe := E }
abbrev Cx.nox (X : Cx) : Cx := X.wish fun _ _ => False
theorem Cx.Ok.wish {X : Cx} (ok : X.Ok) (E : Value → Shared → Prop) : (X.wish E).Ok :=
 ⟨ok.mod, ok.kind, ok.glob, ok.blt, ok.above, ok.inj, ok.has, ok.cab, ok.hd, ok.frames, ok.stk, ok.exf, ok.bs, ok.bsz, ok.noex, ok.exfs, ok.funs, ok.frf⟩
theorem Cx.Ok.unwish {X : Cx} {E : Value → Shared → Prop} (ok : (X.wish E).Ok) : X.Ok :=
 ⟨ok.mod, ok.kind, ok.glob, ok.blt, ok.above, ok.inj, ok.has, ok.cab, ok.hd, ok.frames, ok.stk, ok.exf, ok.bs, ok.bsz, ok.noex, ok.exfs, ok.funs, ok.frf⟩
section
variable {X : Cx} {pins : List (Addr × Obj)} {σ : St} {H : Hp} {s : Shared} {E : Value → Shared → Prop}
theorem Inv.wish (I : Inv X pins σ H s) (E : Value → Shared → Prop) : Inv (X.wish E) pins σ H s := ⟨I.ok.wish E, I.os, I.bare, I.base, I.loc, I.cell, I.free, I.freeC, I.pin, I.hok, I.len⟩
theorem Inv.unwish (I : Inv (X.wish E) pins σ H s) : Inv X pins σ H s := ⟨I.ok.unwish, I.os, I.bare, I.base, I.loc, I.cell, I.free, I.freeC, I.pin, I.hok, I.len⟩
theorem SP.unwish {D : DF} {f : Flow} {s' : Shared} (h : SP (X.wish E) pins D f s') : SP X pins D f s' := by
 cases f with
 | next => obtain ⟨σ', H', I, q⟩ := h; exact ⟨σ', H', I.unwish, q⟩
 | brk => obtain ⟨σ', H', I, q⟩ := h; exact ⟨σ', H', I.unwish, q⟩
 | cont => obtain ⟨σ', H', I, q⟩ := h; exact ⟨σ', H', I.unwish, q⟩
 | ret u => obtain ⟨v, σ', H', I, r, q⟩ := h; exact ⟨v, σ', H', I.unwish, r, q⟩
theorem PSs.nox {st : List Stmt} {t : TS} (h : PSs X.nox st t) : PSs X st t := fun pins s σ H D I hw =>
 wpAny_mono (h pins s σ H D (I.wish _) hw) (fun _ _ q => q.unwish) fun _ _ z => False.elim z
end
section
variable {X : Cx} {st : Stmt} {rest : List Stmt} {t u : TS} {e : Expr} {te : TE} {pos : Pos}
def Do : TS := fun D σ H => D.nx σ H
def FI (t u : TS) : TS := fun D σ H => t { D with nx := u D } σ H
theorem AZ : PSs X [] Do := fun _ _ σ H _ I h => wpAny_execs_nil ⟨σ, H, I, h⟩
theorem AC (h1 : PS X st t) (h2 : PSs X rest u) : PSs X (st :: rest) (FI t u) := by
 intro pins s σ H D I h
 refine wpAny_execs_cons (thn (h1 pins s σ H { D with nx := u D } I h) fun f s1 q => ?_)
 cases f with
 | next =>
  obtain ⟨σ', H', I', q⟩ := q
  exact h2 pins s1 σ' H' D I' q
 | ret v => exact q
 | brk => exact q
 | cont => exact q
theorem AF (h1 : PS X st t) : PSs X [st] t := by
 intro pins s σ H D I h
 refine wpAny_execs_cons (thn (h1 pins s σ H D I h) fun f s1 q => ?_)
 cases f with
 | next => exact wpAny_execs_nil q
 | ret v => exact q
 | brk => exact q
 | cont => exact q
def DC : TS := fun D σ H => D.bk σ H
def ED : TS := fun D σ H => D.ct σ H
def EE (te : TE) : TS := fun D σ H => te σ H fun _ H1 => D.nx σ H1
def Fb (te : TE) : TS := fun D σ H => te σ H D.rt
theorem AS (he : PE X e te) : PS X (.Return (some e) pos) (Fb te) := by
 intro pins s σ H D I h
 exact wpAny_Return_some (thn (he pins s σ H _ I h) fun v s1 ⟨x, H1, I1, r1, q1⟩ => ⟨x, σ, H1, I1, r1, q1⟩)
def EI : TS := fun D _ H => D.rt .non H
def Ed (c : TT) (t u : TS) : TS := fun D σ H => c σ H fun b H1 => if b = true then t D σ H1 else u D σ H1
theorem A7 {c : Expr} {a b : List Stmt} {tc : TT} (hc : PT X c tc) (ha : PSs X a t) (hb : PSs X b u) : PS X (.If c a b pos) (Ed tc t u) := by
 intro pins s σ H D I h
 refine wpAny_If (thn (hc pins s σ H _ I h) fun d s1 ⟨H1, I1, q1⟩ => ?_)
 cases d with
 | true => exact ha pins s1 σ H1 D I1 q1
 | false => exact hb pins s1 σ H1 D I1 q1
end
abbrev TG := V → St → Hp → (St → Hp → Prop) → Prop
abbrev TGs := List V → St → Hp → (St → Hp → Prop) → Prop
def PG (X : Cx) (target : Expr) (t : TG) : Prop :=
 ∀ (pins : List (Addr × Obj)) (s : Shared) (σ : St) (H : Hp) (v : V) (u : Value) (Q : St → Hp → Prop), Inv X pins σ H s → RelV v u → t v σ H Q →
  wpAny (model X.prog X.w) X.A (assign target X.env u) (fun _ s' => ∃ σ' H', Inv X pins σ' H' s' ∧ Q σ' H') X.xe s
def PGs (X : Cx) (ts : List Expr) (t : TGs) : Prop :=
 ∀ (pins : List (Addr × Obj)) (s : Shared) (σ : St) (H : Hp) (vs : List V) (us : List Value) (Q : St → Hp → Prop), Inv X pins σ H s → AU vs us → t vs σ H Q →
  wpAny (model X.prog X.w) X.A (assignInOrder ((assignEach ts X.env).map (·.2)) us) (fun _ s' => ∃ σ' H', Inv X pins σ' H' s' ∧ Q σ' H') X.xe s
abbrev TSet := V → V → V → Hp → (Hp → Prop) → Prop
section
variable {X : Cx} {pos : Pos}
def CI (i : Nat) : TG := fun v σ H Q => Q (σ.set i (some v)) H
theorem BR {i : Nat} {x : Str} (hN : X.N.Nodup) (hi : X.N[i]? = some x) (hx : Loc X.env.scope x) (hf : X.fn x = true ∨ X.env.scope.names.lookup x = some .local := by first | exact .inl rfl | exact .inr rfl | assumption) : PG X (.Name x pos) (CI i) := by
 intro pins s σ H v u Q I r h
 exact wpAny_assign_Name (Ci I hN hi hx r (fun s' I' => ⟨_, H, I', h⟩) hf)
def Dz : TGs := fun vs σ H Q => vs = [] ∧ Q σ H
def CF (t : TG) (u : TGs) : TGs := fun vs σ H Q => ∃ v r, vs = v :: r ∧ t v σ H fun σ' H' => u r σ' H' Q
theorem Ew : PGs X [] Dz := by
 intro pins s σ H vs us Q I r h
 obtain ⟨e, h⟩ := h
 subst e
 cases r
 exact assignInOrder_nil ⟨σ, H, I, h⟩
theorem Ba {e : Expr} {es : List Expr} {t : TG} {u : TGs} (h1 : PG X e t) (h2 : PGs X es u)
  (hs : (assignEach (e :: es) X.env).map (·.2) = assign e X.env :: (assignEach es X.env).map (·.2) := by rfl) : PGs X (e :: es) (CF t u) := by
 intro pins s σ H vs us Q I r h
 obtain ⟨v, vr, e1, h⟩ := h
 subst e1
 cases r with
 | cons r rr =>
  rw [hs]
  refine assignInOrder_cons (thn (h1 pins s σ H _ _ _ I r h) fun _ s1 ⟨σ1, H1, I1, q1⟩ => ?_)
  exact h2 pins s1 σ1 H1 _ _ Q I1 rr q1
def Ef (K : PySem.W.Frag) (n : Nat) (t : TGs) : TG := fun v σ H Q => ∃ a xs, v = .ref a ∧ SqT K H a xs ∧ xs.length = n ∧ t xs σ H Q
def Ep (to ti : TE) (t : TSet) : TG := fun v σ H Q => to σ H fun o H1 => ti σ H1 fun i H2 => t o i v H2 fun H3 => Q σ H3
def Ee (te : TE) (g : TG) : TS := fun D σ H => te σ H fun x H1 => g x σ H1 D.nx
theorem Ff {tg e : Expr} {te : TE} {g : TG} (he : PE X e te) (hg : PG X tg g) (hs : swapsWithSole [tg] e pos.line X.env = pure false := by rfl) (hw : swappedStores [tg] e X.env = pure none := by rfl)
  (h1 : (assignEach [tg] X.env).map (·.2) = [assign tg X.env] := by rfl) : PS X (.Assign [tg] e pos) (Ee te g) := by
 intro pins s σ H D I h
 refine wpAny_Assign_stores (thn (he pins s σ H _ I h) fun v s1 ⟨x, H1, I1, r1, q1⟩ => ?_) hs hw
 rw [h1]
 exact thn (hg pins s1 σ H1 x v _ I1 r1 q1) fun _ s2 q => q
theorem AN {i : Nat} {x : Str} {e : Expr} {te : TE} {pos' : Pos} (hN : X.N.Nodup) (hi : X.N[i]? = some x) (hx : Loc X.env.scope x) (he : PE X e te) (hs : swapsWith e (some (.Name x pos')) pos.line X.env = pure false := by rfl) (hf : X.fn x = true ∨ X.env.scope.names.lookup x = some .local := by first | exact .inl rfl | exact .inr rfl | assumption) :
  PS X (.Assign [.Name x pos'] e pos) (Ee te (CI i)) := by
 intro pins s σ H D I h
 refine wpAny_Assign_Name (thn (he pins s σ H _ I h) fun v s1 ⟨y, H1, I1, r1, q1⟩ => ?_) hs
 exact Ci I1 hN hi hx r1 (fun s2 I2 => ⟨_, H1, I2, q1⟩) hf
def FX (i j : Nat) (ta : TA) : TS := fun D σ H => ta σ H fun vs H1 => ∃ v w, vs = [v, w] ∧ D.nx ((σ.set i (some v)).set j (some w)) H1
theorem IY {i j : Nat} {x y : Str} {a b : Expr} {ta : TA} {px py pt : Pos} {kt k2 pt2} (hc : X.calm = true) (hN : X.N.Nodup) (hi : X.N[i]? = some x) (hj : X.N[j]? = some y) (hij : i ≠ j)
  (hx : X.env.scope.names.lookup x = some .local) (hy : X.env.scope.names.lookup y = some .local) (ha : PA X [a, b] ta)
  (hw : swappedStores [.Tuple [.Name x px, .Name y py] kt pt] (.Tuple [a, b] k2 pt2) X.env = pure (some [x, y]))
  (hs : swapsWithSole [.Tuple [.Name x px, .Name y py] kt pt] (.Tuple [a, b] k2 pt2) pos.line X.env = pure false := by rfl) :
  PS X (.Assign [.Tuple [.Name x px, .Name y py] kt pt] (.Tuple [a, b] k2 pt2) pos) (FX i j ta) := by
 intro pins s σ H D I h
 rw [exec_Assign_arm]
 refine wpAny_bind (wpAny_standAt ?_)
 rw [hs]
 refine wpAny_bind (wpAny_pure ?_)
 rw [if_neg (by decide)]
 refine wpAny_bind (Tuple_ (thn (ha _ pins s σ H _ I h) fun us s1 ⟨vs, H1, I1, r1, q1⟩ => ?_))
 obtain ⟨v, w, e1, q1⟩ := q1
 subst e1
 obtain ⟨u1, u2, rfl, rv, rw'⟩ : ∃ u1 u2, us = [u1, u2] ∧ RelV v u1 ∧ RelV w u2 := by
  cases r1 with
  | cons p q =>
   cases q with
   | cons p' q' =>
    cases q'
    exact ⟨_, _, rfl, p, p'⟩
 refine wpAny_newObj_type ?_ (by show 2 ≤ sizeLine; decide)
 have I2 : Inv X pins σ H1 { s1 with heap := s1.heap.push { cls := .type "tuple", data := .seq [u1, u2].toArray } } := I1.kept (t' := s1.toks) fun b o e => Heap.get?_push_of_some _ e
 rw [hw]
 refine wpAny_bind (wpAny_pure ?_)
 show wpAny (model X.prog X.w) X.A (do rule "assign.swapped-stores"; let items ← unpackItems (.ref s1.heap.objs.size) 2 none; assignInOrder [fun v => bindName X.env y v, fun v => bindName X.env x v] items.reverse; pure Flow.next) _ _ _
 refine wpAny_bind (wpAny_rule (wpAny_bind (unpackItems_tuple (items := #[u1, u2]) (I.ok.hd hc) (IsTup.new s1.heap _) fun h' hx' => ?_)))
 have I3 := I2.kept (h' := h') (t' := s1.toks) fun b o e => hx' b o (Nat.ne_of_lt (Heap.lt_size e)) e
 show wpAny _ _ (assignInOrder [fun v => bindName X.env y v, fun v => bindName X.env x v] [u2, u1] >>= fun _ => pure Flow.next) _ _ _
 refine wpAny_bind (assignInOrder_cons (wpAny_bindName (Ci I3 hN hj (.inl hy) rw' (fun s2 I4 => ?_) (.inr hy))))
 refine assignInOrder_cons (wpAny_bindName (Ci I4 hN hi (.inl hx) rv (fun s3 I5 => assignInOrder_nil (wpAny_pure ?_)) (.inr hx)))
 rw [List.set_comm _ _ (Ne.symm hij)] at I5
 exact ⟨_, H1, I5, q1⟩
end
section
variable {X : Cx} {pos : Pos}
def JM (c : TT) (tb : TS) : TS := fun D σ H => ∃ W : Nat → St → Hp → Prop, (∃ m, W m σ H) ∧ ∀ m σ H, W m σ H →
 c σ H fun b H1 => if b = true then ∃ N : St → Hp → Prop, (∀ σ' H', N σ' H' → ∃ m', m' < m ∧ W m' σ' H') ∧ tb { D with nx := N, ct := N, bk := D.nx } σ H1 else D.nx σ H1
theorem FQ {c : Expr} {body : List Stmt} {tc : TT} {tb : TS} (hp : PassesOwn (model X.prog X.w) X.A X.env X.xe) (hc : PT X c tc) (hb : PSs X body tb) : PS X (.While c body [] pos) (JM tc tb) := by
 intro pins s σ H D I h
 obtain ⟨W, ⟨m0, w0⟩, turn⟩ := h
 refine wpAny_While (codeAny_whileLoop (fun n s' => ∃ σ' H', Inv X pins σ' H' s' ∧ W n σ' H') ?_ m0 ⟨σ, H, I, w0⟩)
 rintro n s1 ⟨σ1, H1, I1, w1⟩
 refine wpAny_passesOwn hp (thn (hc pins s1 σ1 H1 _ I1 (turn n σ1 H1 w1)) fun b s2 ⟨H2, I2, q2⟩ => ?_)
 cases b with
 | true =>
  obtain ⟨N, hN, q2⟩ := q2
  rw [if_pos rfl]
  refine wpAny_passesOwn hp (thn (hb pins s2 σ1 H2 _ I2 q2) fun f s3 q3 => ?_)
  cases f with
  | next =>
   obtain ⟨σ3, H3, I3, n3⟩ := q3
   obtain ⟨m', hm, w3⟩ := hN σ3 H3 n3
   exact ⟨m', hm, σ3, H3, I3, w3⟩
  | cont =>
   obtain ⟨σ3, H3, I3, n3⟩ := q3
   obtain ⟨m', hm, w3⟩ := hN σ3 H3 n3
   exact ⟨m', hm, σ3, H3, I3, w3⟩
  | brk => exact q3
  | ret v => exact q3
 | false =>
  rw [if_neg Bool.false_ne_true]
  exact wpAny_execs_nil ⟨σ1, H2, I2, q2⟩
end
structure It where
 go : Nat → Hp → Prop
 yld : Nat → Hp → V → Hp → Prop
 stop : Nat → Hp → Prop
def DV (X : Cx) (pins : List (Addr × Obj)) (H : Hp) (b : Addr) : Prop :=
 H b = none ∧ b ≠ X.env.locals ∧ b ∉ X.fs ∧ (b ∈ X.ex ∨ X.s₀.heap.objs.size ≤ b) ∧ (∀ x c, X.env.cells.lookup x = some c → c ≠ b) ∧ ∀ p ∈ X.pn ++ pins, p.1 ≠ b
theorem Inv.fpOk {X : Cx} {pins : List (Addr × Obj)} {σ : St} {H H' : Hp} {s : Shared} {b : Addr} (I : Inv X pins σ H s) (hb : s.heap.objs.size ≤ b) (hn : H' b = none) : DV X pins H' b := by
 refine ⟨hn, Nat.ne_of_gt (Nat.lt_of_lt_of_le I.lt hb), I.nofs hb, .inr (Nat.le_trans I.sz hb), fun x c e z => ?_, fun p hp z => ?_⟩
 ·obtain ⟨v, q⟩ := I.cell x c e
  exact absurd (Nat.lt_of_lt_of_le q.lt (by rw [z]; exact hb)) (Nat.lt_irrefl _)
 ·exact absurd (Nat.lt_of_lt_of_le (Heap.lt_size (I.pin p hp).1) (by rw [z]; exact hb)) (Nat.lt_irrefl _)
structure G5 (P : Program) (w : World) (K : PySem.W.Frag) (tg : Expr) (J : It) (fp : List Addr) (it : Addr) (tn : Nat → Heap → Prop) : Prop where
 mem : it ∈ fp
 obj : ∀ i h, tn i h → ∀ b ∈ fp, ∃ o, h.get? b = some o ∧ ∀ v, o.data ≠ .cell v
 keep : ∀ i h h', tn i h → (∀ b ∈ fp, ∀ o, h.get? b = some o → h'.get? b = some o) → tn i h'
 item : ∀ (X : Cx), X.prog = P → X.w = w → X.K = K → X.calm = true → ∀ (i : Nat) (pins : List (Addr × Obj)) (s : Shared) (σ : St) (H : Hp) (E : Value → Shared → Prop), Inv X pins σ H s → (∀ b ∈ fp, DV X pins H b) → tn i s.heap → J.go i H →
  wpAny (model P w) X.A (pyNext (.ref it)) (fun r s1 => ∃ u, r = some u ∧
   wpAny (model P w) X.A (letOwnedTupleGo tg (.ref it) u) (fun _ s2 => ∃ x H', Inv X pins σ H' s2 ∧ RelV x u ∧ J.yld i H x H' ∧ tn (i + 1) s2.heap ∧ ∀ b ∈ fp, H' b = none) E s1) E s
 done : ∀ (X : Cx), X.prog = P → X.w = w → X.K = K → X.calm = true → ∀ (i : Nat) (pins : List (Addr × Obj)) (s : Shared) (σ : St) (H : Hp) (E : Value → Shared → Prop), Inv X pins σ H s → (∀ b ∈ fp, DV X pins H b) → tn i s.heap → J.stop i H →
  wpAny (model P w) X.A (pyNext (.ref it)) (fun r s1 => r = none ∧ Inv X pins σ H s1) E s
 self : ∀ (A : Around) (i : Nat) (s : Shared) (Q : Value → Shared → Prop) (E : Value → Shared → Prop), tn i s.heap → Q (.ref it) s → wpAny (model P w) A (pyIter (.ref it)) Q E s
abbrev TI := St → Hp → (It → Hp → Prop) → Prop
def PIE (X : Cx) (pins : List (Addr × Obj)) (σ : St) (tg : Expr) (R : It → Hp → Prop) (itv : Value) (s2 : Shared) : Prop :=
 ∃ (it : Addr) (fp : List Addr) (tn : Nat → Heap → Prop) (J : It) (H' : Hp), itv = .ref it ∧ Inv X pins σ H' s2 ∧ G5 X.prog X.w X.K tg J fp it tn ∧ tn 0 s2.heap ∧ (∀ b ∈ fp, DV X pins H' b) ∧ R J H'
def PI (X : Cx) (tg iter : Expr) (wi : TI) : Prop :=
 ∀ (pins : List (Addr × Obj)) (s : Shared) (σ : St) (H : Hp) (R : It → Hp → Prop), Inv X pins σ H s → wi σ H R →
  wpAny (model X.prog X.w) X.A (eval iter X.env) (fun v s1 => wpAny (model X.prog X.w) X.A (pyIter v) (PIE X pins σ tg R) X.xe s1) X.xe s
theorem G6 {M : Model} {A : Around} {E : Value → Shared → Prop} {s : Shared} {tg : Expr} {it : Addr} {u : Value} {o : Obj} {n : String} {vs : Array Value} {Q : Unit → Shared → Prop} (ho : s.heap.get? it = some o) (hc : o.cls = .type n) (hd : o.data = .fields vs)
  (hn : ["enumerate", "zip", "dict_itemiterator", "dict_reverseitemiterator", "odict_iterator", "itertools.zip_longest", "itertools.pairwise"].contains n = false) (hQ : Q () s) : wpAny M A (letOwnedTupleGo tg (.ref it) u) Q E s := by
 unfold letOwnedTupleGo
 cases tg <;> first
  | exact wpAny_pure hQ
  | (cases u <;> first
    | exact wpAny_pure hQ
    | (refine wpAny_bind (wpAny_load ho ?_)
       rw [hc, hd]
       show wpAny M A (if (["enumerate", "zip", "dict_itemiterator", "dict_reverseitemiterator", "odict_iterator", "itertools.zip_longest", "itertools.pairwise"].contains n && vs[0]? == some (rawInt _)) = true then _ else _) Q E s
       rw [if_neg (by intro h; rw [hn, Bool.false_and] at h; cases h)]
       exact wpAny_pure hQ))
def Itl (K : PySem.W.Frag) (a : Addr) : It :=
 ⟨fun i H => ∃ xs x, SqL K H a xs ∧ xs[i]? = some x, fun i H x H' => H' = H ∧ ∀ xs, SqL K H a xs → xs[i]? = some x, fun i H => ∃ xs, SqL K H a xs ∧ xs.length ≤ i⟩
def Itt (K : PySem.W.Frag) (a : Addr) : It :=
 ⟨fun i H => ∃ xs x, SqT K H a xs ∧ xs[i]? = some x, fun i H x H' => H' = H ∧ ∀ xs, SqT K H a xs → xs[i]? = some x, fun i H => ∃ xs, SqT K H a xs ∧ xs.length ≤ i⟩
def Itr (lo : Int) (n : Nat) : It := ⟨fun i _ => i < n, fun i H x H' => H' = H ∧ x = .int (lo + i), fun i _ => n ≤ i⟩
theorem FU {P : Program} {w : World} {K : PySem.W.Frag} {tg : Expr} (a it : Addr) : G5 P w K tg (Itt K a) [it] it (fun i h => h.IsTupleIter it a i) where
 mem := by simp
 obj := fun i h st b hb => by
  have e : b = it := by simpa using hb
  subst e
  obtain ⟨o, e, c, d⟩ := st
  exact ⟨o, e, fun v z => by rw [d] at z; cases z⟩
 keep := fun i h h' st k => st.at fun o e => k it (by simp) o e
 item := by
  intro X hP hw hK hc i pins s σ H E I hf st hg
  subst hP hw hK
  obtain ⟨xs, x, hq, hx⟩ := hg
  obtain ⟨its, rv, p, hz⟩ := I.tuple hq
  obtain ⟨u, hu, ru⟩ := rv.get hx
  obtain ⟨f0, f1, f2, f3, f4, f5⟩ := hf it (by simp)
  refine wpAny_pyNext_tuple_item st (show s.heap.IsTuple a its.toArray from p) (x := u) (by simpa using hu) fun h' st' sb => ?_
  have I1 : Inv X pins σ H { s with heap := h' } := I.turned (t' := s.toks) (fun b o hb e => (sb.2 b hb).trans e) f0 f1 f3 f4 f5
  obtain ⟨o, e, c, d⟩ := id st'
  exact ⟨u, rfl, G6 (s := { s with heap := h' }) e c d (by decide) ⟨x, H, I1, ru, ⟨rfl, fun ys hy => by rw [I.tuple_inj hy hq]; exact hx⟩, st', fun b hb => (hf b hb).1⟩⟩
 done := by
  intro X hP hw hK hc i pins s σ H E I hf st hg
  subst hP hw hK
  obtain ⟨xs, hq, hx⟩ := hg
  obtain ⟨its, rv, p, hz⟩ := I.tuple hq
  obtain ⟨f0, f1, f2, f3, f4, f5⟩ := hf it (by simp)
  have hl := rv.length
  exact wpAny_pyNext_tuple_end (I.ok.hd hc) st (show s.heap.IsTuple a its.toArray from p) (by simp; omega) fun h' eb => ⟨rfl, I.turned (t' := s.toks) (fun b o hb e => eb b o hb e) f0 f1 f3 f4 f5⟩
 self := fun _ _ _ _ _ st h => wpAny_pyIter_tupleiter st h
theorem Fm {P : Program} {w : World} {K : PySem.W.Frag} {tg : Expr} (it : Addr) (lo : Int) (n : Nat) : G5 P w K tg (Itr lo n) [it] it (fun i h => IsRangeIter h it (lo + (i : Nat) * 1) ((n : Int) - (i : Nat)) 1) where
 mem := by simp
 obj := fun i h st b hb => by
  have e : b = it := by simpa using hb
  subst e
  exact ⟨_, st, fun v z => by
   have z' : Data.fields _ = Data.cell v := z
   cases z'⟩
 keep := fun i h h' st k => k it (by simp) _ st
 item := by
  intro X hP hw hK hc i pins s σ H E I hf st hg
  subst hP hw hK
  obtain ⟨f0, f1, f2, f3, f4, f5⟩ := hf it (by simp)
  have W := Walks.range (prog := X.prog) (w := X.w) (I.ok.hd hc) it lo 1 n
  refine W.item i s _ _ hg st fun v h' tk hv st' kk => ?_
  obtain ⟨t, rfl⟩ := hv
  have I1 : Inv X pins σ H { s with heap := h', toks := tk } := I.turned (fun b o hb e => kk b o (by simpa using hb) e) f0 f1 f3 f4 f5
  refine ⟨_, rfl, G6 (s := { s with heap := h', toks := tk }) (n := "range_iterator") st' rfl rfl (by decide) ⟨.int (lo + i), H, I1, ⟨t, ?_⟩, ⟨rfl, rfl⟩, st', fun b hb => (hf b hb).1⟩⟩
  rw [Int.mul_one]
 done := by
  intro X hP hw hK hc i pins s σ H E I hf st hg
  subst hP hw hK
  obtain ⟨f0, f1, f2, f3, f4, f5⟩ := hf it (by simp)
  exact wpAny_pyNext_range_end (I.ok.hd hc) st (by have : n ≤ i := hg; omega) fun h' eb => ⟨rfl, I.turned (t' := s.toks) (fun b o hb e => eb b o hb e) f0 f1 f3 f4 f5⟩
 self := fun _ _ _ _ _ st h => wpAny_pyIter_rangeiter st h
end L2
namespace L2
open PySem PySem.Spec PyProof.Rows
section
variable {X : Cx} {tg : Expr}
def iTup (K : PySem.W.Frag) (tl : TE) : TI := fun σ H R => tl σ H fun x H1 => ∃ a, x = .ref a ∧ (∃ xs, SqT K H1 a xs) ∧ R (Itt K a) H1
theorem IX {l : Expr} {tl : TE} (hl : PE X l tl) : PI X tg l (iTup X.K tl) := by
 intro pins s σ H R I h
 refine thn (hl pins s σ H _ I h) fun v s1 ⟨x, H1, I1, r1, q1⟩ => ?_
 obtain ⟨a, e, ⟨xs, hq⟩, q⟩ := q1
 subst e
 cases r1
 obtain ⟨its, rv, p, hz⟩ := I1.tuple hq
 refine wpAny_pyIter_tuple (show s1.heap.IsTuple a its.toArray from p) ?_
 refine ⟨s1.heap.objs.size, [s1.heap.objs.size], _, _, H1, rfl, I1.kept (t' := s1.toks) fun b o e => Heap.get?_push_of_some _ e, FU a _, ⟨_, Heap.get?_push_size _ rfl, rfl, rfl⟩, fun b hb => ?_, q⟩
 have e : b = s1.heap.objs.size := by simpa using hb
 subst e
 exact I1.fpOk (Nat.le_refl _) (I1.hok.fresh (Nat.le_refl _))
theorem Gk {pins : List (Addr × Obj)} {σ : St} {H : Hp} {s : Shared} {R : It → Hp → Prop} {E : Value → Shared → Prop} {lo hi : Int} {t u v : Tok} {tk : Nat} (I : Inv X pins σ H s) (h1 : -(2 ^ 62) ≤ lo) (h2 : lo < 2 ^ 62) (h3 : -(2 ^ 62) ≤ hi) (h4 : hi < 2 ^ 62)
  (q : R (Itr lo (hi - lo).toNat) H) : wpAny (model X.prog X.w) X.A (pyIter (.ref s.heap.objs.size)) (PIE X pins σ tg R) E { s with heap := s.heap.push { cls := .type "range", data := .fields #[.int lo t, .int hi u, .int 1 v] }, toks := tk } := by
 refine wpAny_pyIter_range (IsRange.new ..) (small_one h1 h2 h3 h4) ?_
 have I1 : Inv X pins σ H { s with heap := s.heap.push { cls := .type "range", data := .fields #[.int lo t, .int hi u, .int 1 v] }, toks := tk } := I.kept fun b o e => Heap.get?_push_of_some _ e
 refine ⟨(s.heap.push { cls := .type "range", data := .fields #[.int lo t, .int hi u, .int 1 v] }).objs.size, [(s.heap.push { cls := .type "range", data := .fields #[.int lo t, .int hi u, .int 1 v] }).objs.size], _, _, H, rfl,
  I1.kept (t' := tk) fun b o e => Heap.get?_push_of_some _ e, Fm _ lo (hi - lo).toNat, ?_, fun b hb => ?_, q⟩
 ·have e1 : lo + ((0 : Nat) : Int) * 1 = lo := by simp
  have e2 : (((hi - lo).toNat : Nat) : Int) - ((0 : Nat) : Int) = Builtin.Range.rangeSize lo hi 1 := by rw [rangeSize_one]; split <;> omega
  show IsRangeIter _ _ (lo + ((0 : Nat) : Int) * 1) ((((hi - lo).toNat : Nat) : Int) - ((0 : Nat) : Int)) 1
  rw [e1, e2]
  exact Heap.get?_push_size _ rfl
 ·have e : b = (s.heap.push { cls := .type "range", data := .fields #[.int lo t, .int hi u, .int 1 v] }).objs.size := by simpa using hb
  subst e
  exact I1.fpOk (Nat.le_refl _) (I1.hok.fresh (Nat.le_refl _))
def CL (ta : TA) : TI := fun σ H R => ta σ H fun vs H1 => ∃ j : Int, vs = [.int j] ∧ -(2 ^ 62) ≤ j ∧ j < 2 ^ 62 ∧ R (Itr 0 j.toNat) H1
def C6 (ta : TA) : TI := fun σ H R => ta σ H fun vs H1 => ∃ i j : Int, vs = [.int i, .int j] ∧ (-(2 ^ 62) ≤ i ∧ i < 2 ^ 62 ∧ -(2 ^ 62) ≤ j ∧ j < 2 ^ 62) ∧ R (Itr i (j - i).toNat) H1
theorem GX {a : Expr} {ta : TA} {p pos : Pos} (hg : Gl X "range") (hm : X.mg "range" = none) (ha : PA X [a] ta) (hs : starEach [a] X.env = [(false, eval a X.env)] := by rfl) : PI X tg (.Call (.Name "range" p) [a] [] pos) (CL ta) := by
 intro pins s σ H R I h
 refine Call_ (EV I hg hm boot_range (PyProof.Rows.callWith_type1 (thn (ha pos pins s σ H _ I h) fun us s1 ⟨vs, H1, I1, r1, q1⟩ => ?_) hs rfl))
 obtain ⟨j, e, q1, q2, q⟩ := q1
 subst e
 cases r1 with
 | cons r rr =>
  cases rr
  obtain ⟨t, rfl⟩ := r
  exact call_range_1 (Gk I1 (by omega) (by omega) q1 q2 (by simpa using q))
def tFor (wi : TI) (g : TG) (tb : TS) : TS := fun D σ H => wi σ H fun J H1 => ∃ W : Nat → Nat → St → Hp → Prop, (∃ m, W 0 m σ H1) ∧ ∀ i m σ H, W i m σ H →
 (J.stop i H ∧ D.nx σ H) ∨ (J.go i H ∧ ∃ N : St → Hp → Prop, (∀ σ' H', N σ' H' → ∃ m', m' < m ∧ W (i + 1) m' σ' H') ∧ ∀ x H', J.yld i H x H' → g x σ H' fun σ2 H2 => tb { D with nx := N, ct := N, bk := D.nx } σ2 H2)
def Dw (fp : List Addr) (h : Heap) : List (Addr × Obj) := fp.filterMap fun b => (h.get? b).map fun o => (b, o)
theorem Bg {fp : List Addr} {h : Heap} {b : Addr} {o : Obj} (hb : b ∈ fp) (e : h.get? b = some o) : (b, o) ∈ Dw fp h := List.mem_filterMap.mpr ⟨b, hb, by rw [e]; rfl⟩
theorem GV {fp : List Addr} {h : Heap} {p : Addr × Obj} (hp : p ∈ Dw fp h) : p.1 ∈ fp ∧ h.get? p.1 = some p.2 := by
 obtain ⟨b, hb, e⟩ := List.mem_filterMap.mp hp
 cases q : h.get? b with
 | none => rw [q] at e; cases e
 | some o =>
  rw [q] at e
  have e' : (b, o) = p := Option.some.inj e
  subst e'
  exact ⟨hb, q⟩
theorem Inv.pinned {pins : List (Addr × Obj)} {σ : St} {H : Hp} {s : Shared} {fp : List Addr} (I : Inv X pins σ H s) (hf : ∀ b ∈ fp, DV X pins H b) (ho : ∀ b ∈ fp, ∃ o, s.heap.get? b = some o ∧ ∀ v, o.data ≠ .cell v) : Inv X (pins ++ Dw fp s.heap) σ H s :=
 I.pins_of fun p hp => (List.mem_append.mp hp).elim (fun z => I.pin p (List.mem_append_right _ z)) fun z => by
  obtain ⟨hb, e⟩ := GV z
  obtain ⟨f0, f1, f2, _⟩ := hf p.1 hb
  obtain ⟨o, e', d⟩ := ho p.1 hb
  rw [e] at e'; cases e'
  exact ⟨e, f0, f1, f2, d⟩
theorem Inv.unpinned {pins pl : List (Addr × Obj)} {σ : St} {H : Hp} {s : Shared} (I : Inv X (pins ++ pl) σ H s) : Inv X pins σ H s := I.pins_of fun p hp => I.pin p (List.mem_append_right _ (List.mem_append_left _ hp))
theorem JK {iter : Expr} {body : List Stmt} {wi : TI} {g : TG} {tb : TS} {pos : Pos} (hp : PassesOwn (model X.prog X.w) X.A X.env X.xe) (hc : X.calm = true) (hi : PI X tg iter wi) (hg : PG X tg g) (hb : PSs X body tb)
  (hs : ∀ x, foldedSetIterable iter X.env x = pure x := by intro _; rfl) : PS X (.For tg iter body [] pos) (tFor wi g tb) := by
 intro pins s σ H D I h
 refine wpAny_For (thn (hi pins s σ H _ I h) fun v s1 h1 => thn h1 fun itv s2 h2 => ?_) hs
 obtain ⟨it, fp, tn, J, H2, e, I2, T, st2, f2, W, ⟨m0, w0⟩, turn⟩ := h2
 subst e
 have stat : ∀ {H' : Hp}, (∀ b ∈ fp, H' b = none) → ∀ b ∈ fp, DV X pins H' b := fun hn b hb => ⟨hn b hb, (f2 b hb).2⟩
 refine codeAny_forLoop_any (fun n s' => ∃ i σ' H', Inv X pins σ' H' s' ∧ tn i s'.heap ∧ (∀ b ∈ fp, H' b = none) ∧ W i n σ' H') ?_ m0 ⟨0, σ, H2, I2, st2, fun b hb => (f2 b hb).1, w0⟩
 rintro n s3 ⟨i, σ3, H3, I3, st3, fr3, w3⟩
 rcases turn i n σ3 H3 w3 with ⟨stop, qn⟩ | ⟨go, N, hN, step⟩
 ·refine wpAny_passesOwn hp (thn (T.done X rfl rfl rfl hc i pins s3 σ3 H3 X.xe I3 (stat fr3) st3 stop) fun r s4 ⟨hr, I4⟩ => ?_)
  subst hr
  exact wpAny_execs_nil ⟨σ3, H3, I4, qn⟩
 ·refine wpAny_passesOwn hp (thn (T.item X rfl rfl rfl hc i pins s3 σ3 H3 X.xe I3 (stat fr3) st3 go) fun r s4 ⟨u, hr, h4⟩ => ?_)
  subst hr
  refine wpAny_passesOwn hp (thn h4 fun _ s5 ⟨x, H5, I5, r5, y5, st5, fr5⟩ => ?_)
  have I5' := I5.pinned (stat fr5) (T.obj _ _ st5)
  refine wpAny_passesOwn hp (thn (hg _ s5 σ3 H5 x u _ I5' r5 (step x H5 y5)) fun _ s6 ⟨σ6, H6, I6, q6⟩ => ?_)
  refine wpAny_passesOwn hp (thn (hb _ s6 σ6 H6 _ I6 q6) fun f s7 q7 => ?_)
  have again : ∀ {σ7 : St} {H7 : Hp}, Inv X (pins ++ Dw fp s5.heap) σ7 H7 s7 → N σ7 H7 → ∃ m, m < n ∧ ∃ i σ' H', Inv X pins σ' H' s7 ∧ tn i s7.heap ∧ (∀ b ∈ fp, H' b = none) ∧ W i m σ' H' := fun {σ7 H7} I7 n7 => by
   obtain ⟨m', hm, w7⟩ := hN σ7 H7 n7
   refine ⟨m', hm, i + 1, σ7, H7, I7.unpinned, T.keep _ _ _ st5 fun b hb o e => (I7.pin (b, o) (List.mem_append_right _ (List.mem_append_right _ (Bg hb e)))).1, fun b hb => ?_, w7⟩
   obtain ⟨o, e, d⟩ := T.obj _ _ st5 b hb
   exact (I7.pin (b, o) (List.mem_append_right _ (List.mem_append_right _ (Bg hb e)))).2.1
  cases f with
  | next => obtain ⟨σ7, H7, I7, n7⟩ := q7; exact again I7 n7
  | cont => obtain ⟨σ7, H7, I7, n7⟩ := q7; exact again I7 n7
  | brk => obtain ⟨σ7, H7, I7, q7⟩ := q7; exact ⟨σ7, H7, I7.unpinned, q7⟩
  | ret v => obtain ⟨x7, σ7, H7, I7, r7, q7⟩ := q7; exact ⟨x7, σ7, H7, I7.unpinned, r7, q7⟩
end
theorem GW {lo : Int} {n : Nat} {g : TG} {tb : TS} {D : DF} {σ : St} {H : Hp} (Pv : Nat → St → Hp → Prop) (h0 : Pv 0 σ H)
  (hs : ∀ i σ H, i < n → Pv i σ H → g (.int (lo + i)) σ H fun σ2 H2 => tb { D with nx := Pv (i + 1), ct := Pv (i + 1), bk := D.nx } σ2 H2) (hd : ∀ σ H, Pv n σ H → D.nx σ H) :
  ∃ W : Nat → Nat → St → Hp → Prop, (∃ m, W 0 m σ H) ∧ ∀ i m σ H, W i m σ H →
   ((Itr lo n).stop i H ∧ D.nx σ H) ∨ ((Itr lo n).go i H ∧ ∃ N : St → Hp → Prop, (∀ σ' H', N σ' H' → ∃ m', m' < m ∧ W (i + 1) m' σ' H') ∧ ∀ x H', (Itr lo n).yld i H x H' → g x σ H' fun σ2 H2 => tb { D with nx := N, ct := N, bk := D.nx } σ2 H2) := by
 refine ⟨fun i m σ H => m = n - i ∧ i ≤ n ∧ Pv i σ H, ⟨n, by simp, Nat.zero_le _, h0⟩, ?_⟩
 rintro i m σ H ⟨rfl, hi, p⟩
 by_cases hlt : i < n
 ·refine .inr ⟨hlt, Pv (i + 1), fun σ' H' p' => ⟨n - (i + 1), by omega, rfl, hlt, p'⟩, fun x H' y => ?_⟩
  obtain ⟨e, y⟩ := y
  subst e y
  exact hs i σ _ hlt p
 ·have e : i = n := by omega
  subst e
  exact .inl ⟨Nat.le_refl _, hd σ H p⟩
end L2
namespace L2
open PySem PySem.Spec PyProof.Rows
abbrev R2 := V → V → Hp → VK → Prop
def OpR (X : Cx) (f : Value → Value → Sem Value) (r : R2) : Prop :=
 ∀ (pins : List (Addr × Obj)) (s : Shared) (σ : St) (H : Hp) (x y : V) (v u : Value) (Q : VK), Inv X pins σ H s → RelV x v → RelV y u → r x y H Q →
  wpAny (model X.prog X.w) X.A (f v u) (EP X pins σ Q) X.xe s
def UnR (X : Cx) (f : Value → Sem Value) (r : V → Hp → VK → Prop) : Prop :=
 ∀ (pins : List (Addr × Obj)) (s : Shared) (σ : St) (H : Hp) (x : V) (v : Value) (Q : VK), Inv X pins σ H s → RelV x v → r x H Q →
  wpAny (model X.prog X.w) X.A (f v) (EP X pins σ Q) X.xe s
def C3 (X : Cx) (f : Value) (r : List V → Hp → VK → Prop) : Prop :=
 ∀ (pins : List (Addr × Obj)) (s : Shared) (σ : St) (H : Hp) (xs : List V) (us : List Value) (Q : VK), Inv X pins σ H s → AU xs us → r xs H Q →
  wpAny (model X.prog X.w) X.A (call f us) (EP X pins σ Q) X.xe s
def tOp (r : R2) (ta tb : TE) : TE := fun σ H Q => ta σ H fun x H1 => tb σ H1 fun y H2 => r x y H2 Q
def tUn (r : V → Hp → VK → Prop) (ta : TE) : TE := fun σ H Q => ta σ H fun x H1 => r x H1 Q
def rI (C : Int → Int → Prop) (g : Int → Int → V) : R2 := fun x y H Q => ∃ i j, x = .int i ∧ y = .int j ∧ C i j ∧ Q (g i j) H
def rI0 (g : Int → Int → V) : R2 := fun x y H Q => ∃ i j, x = .int i ∧ y = .int j ∧ Q (g i j) H
def rU (g : Int → V) : V → Hp → VK → Prop := fun x H Q => ∃ i, x = .int i ∧ Q (g i) H
section
variable {X : Cx} {a b c : Expr} {ta tb tc : TE} {pos : Pos}
theorem Ix (ha : PE X a ta) (hb : PE X b tb) {pins : List (Addr × Obj)} {s : Shared} {σ : St} {H : Hp} {R : V → V → Hp → Prop} (I : Inv X pins σ H s)
  (h : ta σ H fun x H1 => tb σ H1 fun y H2 => R x y H2) {Q : Value → Shared → Prop} {f : Value → Value → Sem Value}
  (hf : ∀ v u s2 x y H2, Inv X pins σ H2 s2 → RelV x v → RelV y u → R x y H2 → wpAny (model X.prog X.w) X.A (f v u) Q X.xe s2) :
  wpAny (model X.prog X.w) X.A (eval a X.env) (fun v s₁ => wpAny (model X.prog X.w) X.A (eval b X.env) (fun u s₂ => wpAny (model X.prog X.w) X.A (f v u) Q X.xe s₂) X.xe s₁) X.xe s := by
 refine thn (ha pins s σ H _ I h) fun v s1 ⟨x, H1, I1, r1, q1⟩ => ?_
 refine thn (hb pins s1 σ H1 _ I1 q1) fun u s2 ⟨y, H2, I2, r2, q2⟩ => ?_
 exact hf v u s2 x y H2 I2 r1 r2 q2
theorem AH {op : Operator} {r : R2} (ho : OpR X (binaryOp op) r) (ha : PE X a ta) (hb : PE X b tb) : PE X (.BinOp a op b pos) (tOp r ta tb) := by
 intro pins s σ H Q I h
 exact wpAny_BinOp (Ix ha hb I h fun v u s2 x y H2 I2 rx ry q => ho pins s2 σ H2 x y v u Q I2 rx ry q)
theorem IN {op : UnaryOp} {r : V → Hp → VK → Prop} (ho : UnR X (unaryOp op) r) (ha : PE X a ta) : PE X (.UnaryOp op a pos) (tUn r ta) := by
 intro pins s σ H Q I h
 exact UnaryOp_ (thn (ha pins s σ H _ I h) fun v s1 ⟨x, H1, I1, r1, q1⟩ => ho pins s1 σ H1 x v Q I1 r1 q1)
theorem opI {f : Value → Value → Sem Value} {C : Int → Int → Prop} {g : Int → Int → Int}
  (rule : ∀ (i j : Int) (t u : Tok) (s : Shared) (Q : Value → Shared → Prop) (E : Value → Shared → Prop), C i j → Q (.int (g i j) s.toks) { s with toks := s.toks + 1 } → wpAny (model X.prog X.w) X.A (f (.int i t) (.int j u)) Q E s) :
  OpR X f (rI C fun i j => .int (g i j)) := by
 intro pins s σ H x y v u Q I rx ry h
 obtain ⟨i, j, rfl, rfl, hc, q⟩ := h
 obtain ⟨t, rfl⟩ := rx
 obtain ⟨t', rfl⟩ := ry
 exact rule i j t t' s _ _ hc ⟨.int (g i j), H, I.tok _, ⟨_, rfl⟩, q⟩
theorem opI0 {f : Value → Value → Sem Value} {g : Int → Int → Int}
  (rule : ∀ (i j : Int) (t u : Tok) (s : Shared) (Q : Value → Shared → Prop) (E : Value → Shared → Prop), Q (.int (g i j) s.toks) { s with toks := s.toks + 1 } → wpAny (model X.prog X.w) X.A (f (.int i t) (.int j u)) Q E s) :
  OpR X f (rI0 fun i j => .int (g i j)) := by
 intro pins s σ H x y v u Q I rx ry h
 obtain ⟨i, j, rfl, rfl, q⟩ := h
 obtain ⟨t, rfl⟩ := rx
 obtain ⟨t', rfl⟩ := ry
 exact rule i j t t' s _ _ ⟨.int (g i j), H, I.tok _, ⟨_, rfl⟩, q⟩
theorem opB0 {f : Value → Value → Sem Value} {g : Int → Int → Bool}
  (rule : ∀ (i j : Int) (t u : Tok) (s : Shared) (Q : Value → Shared → Prop) (E : Value → Shared → Prop), Q (.bool (g i j)) s → wpAny (model X.prog X.w) X.A (f (.int i t) (.int j u)) Q E s) :
  OpR X f (rI0 fun i j => .bl (g i j)) := by
 intro pins s σ H x y v u Q I rx ry h
 obtain ⟨i, j, rfl, rfl, q⟩ := h
 obtain ⟨t, rfl⟩ := rx
 obtain ⟨t', rfl⟩ := ry
 exact rule i j t t' s _ _ ⟨.bl (g i j), H, I, rfl, q⟩
def FV (i j : Int) : Prop := 0 < j ∧ j < 1073741824
def GL (i j : Int) : Prop := 0 ≤ j ∧ j ≤ 1000000 ∧ i.natAbs < 2 ^ 64
def GZ (i j : Int) : Prop := (-(2 ^ 64) < i ∧ i < 2 ^ 64) ∨ (-(2 ^ 64) < j ∧ j < 2 ^ 64)
theorem Fg : OpR X (binaryOp .Add) (rI0 fun i j => .int (i + j)) := opI0 fun _ _ _ _ _ _ _ q => add_int q
theorem G1 : OpR X (binaryOp .Sub) (rI0 fun i j => .int (i - j)) := opI0 fun _ _ _ _ _ _ _ q => sub_int q
theorem Hc : OpR X (binaryOp .FloorDiv) (rI FV fun i j => .int (i / j)) := opI fun i j _ _ _ _ _ hc q => by
 have h1 : (0 : Int) < j := hc.1
 have h2 : j < 1073741824 := hc.2
 exact floordiv_int (by omega) (by rw [Int.fdiv_eq_ediv_of_nonneg i (by omega)]; exact q) (.inl (PyProof.noPylong_small (by omega)))
theorem CU : OpR X (binaryOp .Mod) (rI (fun _ j => 0 < j) fun i j => .int (i % j)) := opI fun i j _ _ _ _ _ hc q => by
 have h1 : (0 : Int) < j := hc
 exact mod_int' (by omega) (by rw [Int.fmod_eq_emod_of_nonneg i (by omega)]; exact q)
theorem Fp : OpR X (binaryOp .Mod) (rI (fun _ j => j ≠ 0) fun i j => .int (i.fmod j)) := opI fun _ _ _ _ _ _ _ hc q => mod_int' hc q
theorem unI {f : Value → Sem Value} {g : Int → Int}
  (rule : ∀ (i : Int) (t : Tok) (s : Shared) (Q : Value → Shared → Prop) (E : Value → Shared → Prop), Q (.int (g i) s.toks) { s with toks := s.toks + 1 } → wpAny (model X.prog X.w) X.A (f (.int i t)) Q E s) :
  UnR X f (rU fun i => .int (g i)) := by
 intro pins s σ H x v Q I rx h
 obtain ⟨i, rfl, q⟩ := h
 obtain ⟨t, rfl⟩ := rx
 exact rule i t s _ _ ⟨.int (g i), H, I.tok _, ⟨_, rfl⟩, q⟩
theorem HA : UnR X (unaryOp .USub) (rU fun i => .int (-i)) := unI fun _ _ _ _ _ q => neg_int q
end
def FD : V → V → Bool
 | .non, .non => true | .non, .int _ => true | .int _, .non => true | .non, .bl _ => true | .bl _, .non => true | .non, .str _ => true | .str _, .non => true
 | .int _, .int _ => true | .bl _, .bl _ => true | .str _, .str _ => true | .byt _, .byt _ => true
 | .int _, .str _ => true | .str _, .int _ => true | .bl _, .str _ => true | .str _, .bl _ => true
 | _, _ => false
def rEq : R2 := fun x y H Q => FD x y = true ∧ Q (.bl (decide (x = y))) H
def rNe : R2 := fun x y H Q => FD x y = true ∧ Q (.bl (!decide (x = y))) H
theorem F3 {i j : Int} : decide (V.int i = V.int j) = (i == j) := by
 rw [Bool.eq_iff_iff]
 simp
theorem HI {i j : Bool} : decide (V.bl i = V.bl j) = (i == j) := by
 rw [Bool.eq_iff_iff]
 simp
theorem F1 {i j : Str} : decide (V.str i = V.str j) = (i == j) := by
 rw [Bool.eq_iff_iff]
 simp
theorem GB {i j : Array UInt8} : decide (V.byt i = V.byt j) = (i.toList == j.toList) := by
 rw [Bool.eq_iff_iff]
 cases i
 cases j
 simp
section
variable {X : Cx} {a b c : Expr} {ta tb tc : TE} {pos : Pos}
theorem AJ {pins : List (Addr × Obj)} {σ : St} {H : Hp} {s : Shared} {Q : VK} {k k' : Bool} (I : Inv X pins σ H s) (q : Q (.bl k) H) (e : k = k') : EP X pins σ Q (.bool k') s := by
 subst e
 exact ⟨.bl k, H, I, rfl, q⟩
theorem F9 : OpR X (compareOp .Eq) rEq := by
 intro pins s σ H x y v u Q I rx ry h
 obtain ⟨hs, q⟩ := h
 cases x with
 | non =>
  cases rx
  cases y with
  | non => cases ry; exact PySem.EqNone.eq_none_none (AJ I q (by simp))
  | bl j => cases ry; exact PySem.EqNone.eq_none_bool (AJ I q (by simp))
  | int j => obtain ⟨t', rfl⟩ := ry; exact PySem.EqNone.eq_none_int (AJ I q (by simp))
  | str j => obtain ⟨t', rfl⟩ := ry; exact PySem.EqNone.eq_none_str (AJ I q (by simp))
  | _ => exact absurd (show false = true from hs) Bool.false_ne_true
 | bl i =>
  cases rx
  cases y with
  | non => cases ry; exact PySem.EqNone.eq_bool_none (AJ I q (by simp))
  | bl j => cases ry; exact eq_bool (AJ I q HI)
  | str j => obtain ⟨t', rfl⟩ := ry; exact PySem.EqMixed.eq_bool_str (AJ I q (by simp))
  | _ => exact absurd (show false = true from hs) Bool.false_ne_true
 | int i =>
  obtain ⟨t, rfl⟩ := rx
  cases y with
  | non => cases ry; exact PySem.EqNone.eq_int_none (AJ I q (by simp))
  | int j => obtain ⟨t', rfl⟩ := ry; exact eq_int (AJ I q F3)
  | str j => obtain ⟨t', rfl⟩ := ry; exact PySem.EqMixed.eq_int_str (AJ I q (by simp))
  | _ => exact absurd (show false = true from hs) Bool.false_ne_true
 | str i =>
  obtain ⟨t, rfl⟩ := rx
  cases y with
  | non => cases ry; exact PySem.EqNone.eq_str_none (AJ I q (by simp))
  | bl j => cases ry; exact PySem.EqMixed.eq_str_bool (AJ I q (by simp))
  | int j => obtain ⟨t', rfl⟩ := ry; exact PySem.EqMixed.eq_str_int (AJ I q (by simp))
  | str j => obtain ⟨t', rfl⟩ := ry; exact eq_str (AJ I q F1)
  | _ => exact absurd (show false = true from hs) Bool.false_ne_true
 | byt i =>
  obtain ⟨t, rfl⟩ := rx
  cases y with
  | byt j => obtain ⟨t', rfl⟩ := ry; exact PySem.W.eq_bytes (AJ I q GB)
  | _ => exact absurd (show false = true from hs) Bool.false_ne_true
 | _ => cases y <;> exact absurd (show false = true from hs) Bool.false_ne_true
theorem FC : OpR X (compareOp .NotEq) rNe := by
 intro pins s σ H x y v u Q I rx ry h
 obtain ⟨hs, q⟩ := h
 cases x with
 | non =>
  cases rx
  cases y with
  | non => cases ry; exact PySem.EqNone.ne_none_none (AJ I q (by simp))
  | bl j => cases ry; exact PySem.EqNone.ne_none_bool (AJ I q (by simp))
  | int j => obtain ⟨t', rfl⟩ := ry; exact PySem.EqNone.ne_none_int (AJ I q (by simp))
  | str j => obtain ⟨t', rfl⟩ := ry; exact PySem.EqNone.ne_none_str (AJ I q (by simp))
  | _ => exact absurd (show false = true from hs) Bool.false_ne_true
 | bl i =>
  cases rx
  cases y with
  | non => cases ry; exact PySem.EqNone.ne_bool_none (AJ I q (by simp))
  | bl j => cases ry; exact ne_bool (AJ I q (congrArg not HI))
  | str j => obtain ⟨t', rfl⟩ := ry; exact PySem.EqMixed.ne_bool_str (AJ I q (by simp))
  | _ => exact absurd (show false = true from hs) Bool.false_ne_true
 | int i =>
  obtain ⟨t, rfl⟩ := rx
  cases y with
  | non => cases ry; exact PySem.EqNone.ne_int_none (AJ I q (by simp))
  | int j => obtain ⟨t', rfl⟩ := ry; exact ne_int (AJ I q (congrArg not F3))
  | str j => obtain ⟨t', rfl⟩ := ry; exact PySem.EqMixed.ne_int_str (AJ I q (by simp))
  | _ => exact absurd (show false = true from hs) Bool.false_ne_true
 | str i =>
  obtain ⟨t, rfl⟩ := rx
  cases y with
  | non => cases ry; exact PySem.EqNone.ne_str_none (AJ I q (by simp))
  | bl j => cases ry; exact PySem.EqMixed.ne_str_bool (AJ I q (by simp))
  | int j => obtain ⟨t', rfl⟩ := ry; exact PySem.EqMixed.ne_str_int (AJ I q (by simp))
  | str j => obtain ⟨t', rfl⟩ := ry; exact ne_str (AJ I q (congrArg not F1))
  | _ => exact absurd (show false = true from hs) Bool.false_ne_true
 | byt i =>
  obtain ⟨t, rfl⟩ := rx
  cases y with
  | byt j => obtain ⟨t', rfl⟩ := ry; exact PySem.W.ne_bytes (AJ I q (congrArg not GB))
  | _ => exact absurd (show false = true from hs) Bool.false_ne_true
 | _ => cases y <;> exact absurd (show false = true from hs) Bool.false_ne_true
theorem G2 : OpR X (compareOp .Lt) (rI0 fun i j => .bl (decide (i < j))) := opB0 fun _ _ _ _ _ _ _ q => lt_int q
theorem G7 : OpR X (compareOp .Gt) (rI0 fun i j => .bl (decide (j < i))) := opB0 fun _ _ _ _ _ _ _ q => gt_int q
theorem GU : OpR X (compareOp .In) (fun x y H Q => ∃ i j, x = .str i ∧ y = .str j ∧ Q (.bl (!(Builtin.Str.occurrences j i 0 j.length 1).isEmpty)) H) := by
 intro pins s σ H x y v u Q I rx ry h
 obtain ⟨i, j, rfl, rfl, q⟩ := h
 obtain ⟨t, rfl⟩ := rx
 obtain ⟨t', rfl⟩ := ry
 exact in_str (AJ I q rfl)
theorem Ar (b : Expr) {op : CmpOp} (h : op ≠ .In := by decide) (h2 : op ≠ .NotIn := by decide) : behindInMarks op b = false := by
 have e1 : (op == CmpOp.In) = false := by cases op <;> first | rfl | exact absurd rfl h
 have e2 : (op == CmpOp.NotIn) = false := by cases op <;> first | rfl | exact absurd rfl h2
 cases b <;> simp [behindInMarks, e1, e2]
theorem HW {op : CmpOp} {r : R2} (ho : OpR X (compareOp op) r) (ha : PE X a ta) (hb : PE X b tb) (hm : behindInMarks op b = false) : PE X (.Compare a [op] [b] pos) (tOp r ta tb) := by
 intro pins s σ H Q I h
 exact wpAny_Compare1 (Ix ha hb I h fun v u s2 x y H2 I2 rx ry q => ho pins s2 σ H2 x y v u Q I2 rx ry q) hm
def CN (t : TE) : TT := fun σ H Q => t σ H fun x H' => ∃ k, x = .bl k ∧ Q k H'
theorem Ad {op : CmpOp} {r : R2} (ho : OpR X (compareOp op) r) (ha : PE X a ta) (hb : PE X b tb) (hm : behindInMarks op b = false) : PT X (.Compare a [op] [b] pos) (CN (tOp r ta tb)) := by
 intro pins s σ H Q I h
 refine wpAny_isTrue_Compare1 (thn (ha pins s σ H _ I h) fun v s1 ⟨x, H1, I1, r1, q1⟩ => thn (hb pins s1 σ H1 _ I1 q1) fun u s2 ⟨y, H2, I2, r2, q2⟩ =>
  thn (ho pins s2 σ H2 x y v u _ I2 r1 r2 q2) fun c s3 ⟨z, H3, I3, r3, k, e, q3⟩ => ?_) hm
 subst e
 cases r3
 exact wpAny_truthy_bool ⟨H3, I3, q3⟩
theorem EX : (sizeLine : Nat) < 2 ^ 63 := by rw [sizeLine_eq]; decide
theorem AD : OpR X (binaryOp .Add) (fun x y H Q => ∃ i j, x = .str i ∧ y = .str j ∧ i.length + j.length ≤ sizeLine ∧ Q (.str (i ++ j)) H) := by
 intro pins s σ H x y v u Q I rx ry h
 obtain ⟨i, j, rfl, rfl, hz, q⟩ := h
 obtain ⟨t, rfl⟩ := rx
 obtain ⟨t', rfl⟩ := ry
 exact add_str (fun t' tk => ⟨.str (i ++ j), H, I.tok _, ⟨_, rfl⟩, q⟩) hz
theorem vals1 {x : V} {us : List Value} (r : AU [x] us) : ∃ u, us = [u] ∧ RelV x u := by
 cases r with
 | cons r1 r2 => cases r2; exact ⟨_, rfl, r1⟩
theorem vals2 {x y : V} {us : List Value} (r : AU [x, y] us) : ∃ u w', us = [u, w'] ∧ RelV x u ∧ RelV y w' := by
 cases r with
 | cons r1 r2 =>
  cases r2 with
  | cons r3 r4 => cases r4; exact ⟨_, _, rfl, r1, r3⟩
theorem Dv : C3 X (.builtin "abs") (fun xs H Q => ∃ i, xs = [.int i] ∧ Q (.int (if i < 0 then -i else i)) H) := by
 intro pins s σ H xs us Q I r h
 obtain ⟨i, rfl, q⟩ := h
 obtain ⟨u, rfl, t, rfl⟩ := vals1 r
 exact call_abs_int fun u tk => ⟨.int (if i < 0 then -i else i), H, I.tok _, ⟨_, rfl⟩, q⟩
theorem AL : C3 X (.type "str") (fun xs H Q => ∃ i, xs = [.int i] ∧ i.natAbs.log2 < 1920 ∧ Q (.str (toString i)) H) := by
 intro pins s σ H xs us Q I r h
 obtain ⟨i, rfl, hz, q⟩ := h
 obtain ⟨u, rfl, t, rfl⟩ := vals1 r
 exact PySem.P.str_of_int hz ⟨.str _, H, I.tok _, ⟨_, rfl⟩, q⟩
end
end L2
namespace L2
open PySem PySem.Spec PyProof.Rows
structure Ir (h : Heap) (x dx C : Addr) (mA : Str → Option Value) : Prop where
 obj : h.get? x = some (PySem.W.instObj C dx)
 ns : h.Ns1 dx mA
 ne : dx ≠ x
theorem GH {h : Heap} {dx : Addr} {mA : Str → Option Value} (n : h.Ns1 dx mA) : ∃ od, h.get? dx = some od ∧ ∀ name, PySem.W.lookIn name od = some (mA name) := by
 obtain ⟨o, es, ep, ho, hd, hk, _, hm⟩ := n
 refine ⟨o, ho, fun name => ?_⟩
 have e := hm name
 unfold nsFind findBy at e
 rw [← Array.find?_toList] at e
 unfold PySem.W.lookIn
 rw [hd]
 dsimp only
 split
 ·rename_i y q
  rw [q] at e
  exact congrArg some e
 ·rename_i q
  rw [q] at e
  have a : es.toList.any (·.refKey) = false := by
   rw [List.any_eq_false]
   intro y hy
   obtain ⟨z, t, hkey⟩ := hk y (Array.mem_toList_iff.mp hy)
   simp [DictEntry.refKey, hkey]
  have a' : ¬ es.toList.any (·.refKey) = true := by rw [a]; exact Bool.false_ne_true
  rw [if_neg a']
  exact congrArg some e
theorem Ir.look {h : Heap} {x dx C : Addr} {mA : Str → Option Value} (I : Ir h x dx C mA) : ∃ od, PySem.W.InstAt h x (PySem.W.instObj C dx) C (some od) ∧ ∀ name, PySem.W.lookIn name od = some (mA name) :=
 let ⟨od, ho, hl⟩ := GH I.ns
 ⟨od, ⟨I.obj, rfl, rfl, ho⟩, hl⟩
section
variable {prog : Program} {w : World} {A : Around} {E : Value → Shared → Prop} {s : Shared} {K : PySem.W.Frag} {x dx C f : Addr} {mA : Str → Option Value} {name : Str} {v : Value}
end
def putF (f : Str) (v : V) : List (Str × V) → List (Str × V)
 | [] => [(f, v)]
 | (g, x) :: r => if g = f then (g, v) :: r else (g, x) :: putF f v r
section
variable {P : Program} {w : World} {H H' : Hp} {h h' : Heap} {a C dx : Addr} {fs fs' : List (Str × V)}
theorem Hg (hok : HOk P w H h) (e : H a = some (.ins C dx fs)) : ∃ mA, Ir h a dx C mA ∧ (∀ f, JI (fs.lookup f) (mA f)) ∧ PySem.Within mA (fs.map (·.1)) ∧ fs.length ≤ 1000 ∧ H dx = some (.own a) := by
 obtain ⟨d, z, ne, ob, mA, n, r, q⟩ := (show Ak P w H h a (.ins C dx fs) from hok a _ e)
 exact ⟨mA, ⟨ob, n, ne⟩, r, q, z, d⟩
end
structure Cls (K : PySem.W.Frag) (C : Addr) : Prop where
 pg : PySem.W.plainGet K C Str.empty = true
 hd : PySem.W.hasDictIn K C = true
 po : PySem.W.plainOver K C = true
 sa : PySem.W.findIn K (.ref C) "__setattr__" = some (some (.builtin "object.__setattr__"))
theorem Cls.get {K : PySem.W.Frag} {C : Addr} (c : Cls K C) (f : Str) : PySem.W.plainGet K C f = true := c.pg
def Gg (K : PySem.W.Frag) (C : Addr) (f : Str) : Prop := PySem.W.findIn K (.ref C) f = some none
section
variable {X : Cx} {pins : List (Addr × Obj)} {σ : St} {H : Hp} {s : Shared} {a C dx : Addr} {fs : List (Str × V)} {f : Str} {v : V} {A : Around} {E : Value → Shared → Prop}
end
def Em (K : PySem.W.Frag) (ta : TE) (f : Str) : TE := fun σ H Q => ta σ H fun x H1 => ∃ a C dx fs v, x = .ref a ∧ H1 a = some (.ins C dx fs) ∧ Cls K C ∧ Gg K C f ∧ fs.lookup f = some v ∧ Q v H1
def Eg (K : PySem.W.Frag) (ta tv : TE) (f : Str) : TS := fun D σ H => tv σ H fun y H1 => ta σ H1 fun x H2 => ∃ a C dx fs, x = .ref a ∧ H2 a = some (.ins C dx fs) ∧ Cls K C ∧ Gg K C f ∧ fs.length < 1000 ∧
 D.nx σ (upd H2 a (.ins C dx (putF f y fs)))
section
variable {X : Cx} {o e value : Expr} {f : Str} {pos pos' tpos : Pos} {ta tv : TE}
end
section
variable {X : Cx} {pins : List (Addr × Obj)} {σ : St} {H : Hp} {s : Shared} {A : Around} {E : Value → Shared → Prop} {Q : Value → Shared → Prop} {c : Value} {b : Bool}
inductive Bq (K : PySem.W.Frag) (H : Hp) : V → Value → Prop where
 | non : Bq K H .non (.type "NoneType")
 | bl (x : Bool) : Bq K H (.bl x) (.type "bool")
 | int (i : Int) : Bq K H (.int i) (.type "int")
 | str (x : Str) : Bq K H (.str x) (.type "str")
 | flt (x : UInt64) : Bq K H (.flt x) (.type "float")
 | lst {a : Addr} {xs : List V} (e : H a = some (.lst xs)) : Bq K H (.ref a) (.type "list")
 | frz {a : Addr} {o : Obj} {xs : List V} (e : H a = some (.frz o (.lst xs))) : Bq K H (.ref a) (.type "list")
 | tup {a : Addr} {xs : List V} (e : H a = some (.tup xs)) : Bq K H (.ref a) (.type "tuple")
 | dK {a : Addr} {kvs : List (Key × V)} (e : H a = some (.dK kvs)) : Bq K H (.ref a) (.type "dict")
 | dT {a : Addr} {kvs : List (List Key × V)} (e : H a = some (.dT kvs)) : Bq K H (.ref a) (.type "dict")
 | ins {a C dx : Addr} {fs : List (Str × V)} (e : H a = some (.ins C dx fs)) (cl : Cls K C) (ha : PySem.W.findIn K (.ref C) "__class__" = some (some (.builtin "object.__class__")))
   (hn : PySem.W.specialIn K (.builtin "object.__class__") "__get__" = some (some (.builtin "getset_descriptor.__get__"))) (htk : PySem.W.takesIn K (.builtin "object.__class__") = some true)
   (hm : PySem.W.mroIn K C (.type "object") = some true) : Bq K H (.ref a) (.ref C)
theorem GJ {x : V} {u t : Value} (I : Inv X pins σ H s) (rx : RelV x u) (ty : Bq X.K H x t) (e : PySem.W.kitOne X.K t c = some b) (h : ∀ tk, Q (.bool b) { s with toks := tk }) :
  wpAny (model X.prog X.w) A (call (.builtin "isinstance") [u, c]) Q E s := by
 cases ty with
 | non => cases (show u = Value.none from rx); exact PySem.W.kia_one PySem.W.kitx_none I.kIn True.intro e (fun z => nomatch z) h
 | bl y => cases (show u = Value.bool y from rx); exact PySem.W.kia_one PySem.W.kitx_bool I.kIn True.intro e (fun z => nomatch z) h
 | int i => obtain ⟨t, q⟩ := (show ∃ t, u = Value.int i t from rx); cases q; exact PySem.W.kia_one PySem.W.kitx_int I.kIn True.intro e (fun z => nomatch z) h
 | str y => obtain ⟨t, q⟩ := (show ∃ t, u = Value.str y t from rx); cases q; exact PySem.W.kia_one PySem.W.kitx_str I.kIn True.intro e (fun z => nomatch z) h
 | flt y => obtain ⟨t, q⟩ := (show ∃ t, u = Value.float y t from rx); cases q; exact PySem.W.kia_one PySem.W.kitx_float I.kIn True.intro e (fun z => nomatch z) h
 | @lst a xs ea =>
  cases (show u = Value.ref a from rx)
  obtain ⟨_, _, n, _, h1⟩ := (show Ak X.prog X.w H s.heap a (.lst xs) from I.hok a _ ea)
  exact PySem.W.kia_one PySem.W.kitx_list I.kIn ⟨_, h1, rfl⟩ e (fun z => nomatch z) h
 | @frz a ob xs ea =>
  cases (show u = Value.ref a from rx)
  obtain ⟨_, _, _, n, _, h1⟩ := (show Ak X.prog X.w H s.heap a (.frz ob (.lst xs)) from I.hok a _ ea)
  exact PySem.W.kia_one PySem.W.kitx_list I.kIn ⟨_, h1, rfl⟩ e (fun z => nomatch z) h
 | @tup a xs ea =>
  cases (show u = Value.ref a from rx)
  obtain ⟨_, _, _, p⟩ := (show Ak X.prog X.w H s.heap a (.tup xs) from I.hok a _ ea)
  obtain ⟨o, h1, h2, _⟩ := p
  exact PySem.W.kia_one PySem.W.kitx_tuple I.kIn ⟨o, h1, h2⟩ e (fun z => nomatch z) h
 | @dK a kvs ea =>
  cases (show u = Value.ref a from rx)
  obtain ⟨_, _, vs, _, p⟩ := (show Ak X.prog X.w H s.heap a (.dK kvs) from I.hok a _ ea)
  obtain ⟨o, es, ep, h1, h2, _⟩ := p
  exact PySem.W.kia_one PySem.W.kitx_dict I.kIn ⟨o, h1, h2.1⟩ e (fun z => nomatch z) h
 | @dT a kvs ea =>
  cases (show u = Value.ref a from rx)
  obtain ⟨_, _, xs, _, o, es, ep, h1, h2, _⟩ := (show Ak X.prog X.w H s.heap a (.dT kvs) from I.hok a _ ea)
  exact PySem.W.kia_one PySem.W.kitx_dict I.kIn ⟨o, h1, h2.1⟩ e (fun z => nomatch z) h
 | @ins a C dx fs ea cl ha hn htk hm =>
  cases (show u = Value.ref a from rx)
  obtain ⟨mA, O, _⟩ := Hg I.hok ea
  obtain ⟨od, J, _⟩ := O.look
  exact PySem.W.kia_one (PySem.W.kitx_own (cl.get _) cl.hd ha hn htk hm) I.kIn J e (fun z => nomatch z) h
end
end L2
namespace L2
open PySem PySem.Spec PyProof.Rows
structure BV (k : Nat) (A : Around) : Prop where
 hd : A.handled = none
 dp : A.depth + 3 * k + 5 < recursionLimit
 un : A.units + 16 * k + 200 < cLine
theorem BV.mono {j k : Nat} {A : Around} (r : BV k A) (h : j ≤ k) : BV j A := ⟨r.hd, by have := r.dp; omega, by have := r.un; omega⟩
theorem BV.deeper {k : Nat} {A : Around} (r : BV (k + 1) A) (env : Env) : BV k (A.deeper env) :=
 ⟨r.hd, by have := r.dp; show A.depth + 1 + 3 * k + 5 < _; omega, by have := r.un; show A.units + 3 + 16 * k + 200 < _; omega⟩
theorem BV.depth {k : Nat} {A : Around} (r : BV k A) : A.depth < recursionLimit := by have := r.dp; omega
theorem BV.units {k : Nat} {A : Around} (r : BV k A) : A.units + 64 < cLine := by have := r.un; omega
def Dy : TA := fun _ H Q => Q [] H
def CK (ta : TE) (tr : TA) : TA := fun σ H Q => ta σ H fun x H1 => tr σ H1 fun xs H2 => Q (x :: xs) H2
section
variable {X : Cx} {e : Expr} {es : List Expr} {te : TE} {t : TA} {pos : Pos}
theorem AB : PA X [] Dy := fun _ _ _ _ H Q I h => Calls.spliced_nil ⟨[], H, I, .nil, h⟩
theorem AA (ha : PE X e te) (hr : PA X es t) (hs : starEach (e :: es) X.env = (false, eval e X.env) :: starEach es X.env := by rfl) : PA X (e :: es) (CK te t) := by
 intro pos pins s σ H Q I h
 rw [hs]
 show wpAny _ _ (spliced ((false, eval e X.env) :: backTo pos (starEach es X.env))) _ _ s
 refine Calls.spliced_cons (thn (ha pins s σ H _ I h) fun u s1 ⟨x, H1, I1, r1, q1⟩ => ?_)
 exact thn (hr pos pins s1 σ H1 _ I1 q1) fun us s2 ⟨xs, H2, I2, r2, q2⟩ => ⟨x :: xs, H2, I2, .cons r1 r2, q2⟩
end
abbrev Sp := List V → Hp → VK → XK → Prop
abbrev CXT := List Env → Hp → Shared → XK → Value → Shared → Prop
structure HP (P : Program) (w : World) (K : PySem.W.Frag) (mg : Str → Option Value) (base : Heap) (A : Around) (outer : List Env) (s : Shared) (H : Hp) : Prop where
 frames : A.frames = some outer
 mod : Mod K mg base
 bs : ∀ b o, base.get? b = some o → s.heap.get? b = some o ∧ H b = none
 bsz : base.objs.size ≤ s.heap.objs.size
 funs : s.heap.FunFrames base outer
 frf : ∀ b ∈ frs outer, H b = none
 hok : HOk P w H s.heap
 bare : AllBare s.gens
def CE (outer : List Env) (P : Program) (w : World) (H : Hp) (s : Shared) (Q : VK) (u : Value) (s' : Shared) : Prop :=
 ∃ v H', s'.os = s.os ∧ AllBare s'.gens ∧ Un (frs outer) [] H H' s.heap s'.heap ∧ HOk P w H' s'.heap ∧ RelV v u ∧ Q v H'
def CR (CX : CXT) (outer : List Env) (P : Program) (w : World) (H : Hp) (s : Shared) (Q : VK) (E : XK) (r : Result) (s' : Shared) : Prop :=
 match r with
 | .ok (.ret u) => CE outer P w H s Q u s'
 | .ok _ => False
 | .error e => CX outer H s E e s'
structure BL (P : Program) (w : World) (K : PySem.W.Frag) (mg : Str → Option Value) (base : Heap) (CX : CXT) (k : Nat) (f : Addr) (fd : FuncData) (ps : List Str) (sp : Sp) : Prop where
 len : ∀ vs H Q E, sp vs H Q E → vs.length = ps.length
 run : ∀ (A : Around) (outer : List Env) (s : Shared) (H : Hp) (args : Args) (us : List Value) (vs : List V) (Q : VK) (E : XK), BV k A → HP P w K mg base A outer s H → BindsTo s fd args (ps.zip us) → AU vs us → sp vs H Q E →
  codeAny (model P w) A (.call (.ref f) args) (CR CX outer P w H s Q E) s
section
variable {X : Cx} {pins : List (Addr × Obj)} {σ : St} {H : Hp} {s s' : Shared}
theorem Inv.env0 (I : Inv X pins σ H s) : HP X.prog X.w X.K X.mg X.base X.A X.stack s H :=
 ⟨I.ok.frames, I.ok.mod, I.bs, Nat.le_trans I.ok.bsz I.sz, I.stack, I.stkFree, I.hok, I.bare⟩
theorem Inv.after {Q : VK} {u : Value} (I : Inv X pins σ H s) (h : CE X.stack X.prog X.w H s Q u s') : EP X pins σ Q u s' := by
 obtain ⟨v, H', os, bare, un, hok, r, q⟩ := h
 obtain ⟨hh, g, d, t, os'⟩ := s'
 obtain rfl : os' = s.os := os
 exact ⟨v, H', I.call (h' := hh) (g' := g) (d' := d) (t' := t) (ch := []) un hok bare (fun b z => absurd z (by simp)), r, q⟩
end
def CA (sp : Sp) (dvs : List V) (E : XK) (t : TA) : TE := fun σ H Q => t σ H fun vs H1 => sp (vs ++ dvs) H1 Q E
def Cg (C : Addr) (m : Str) (sp : Sp) (dvs : List V) (E : XK) (ta : TE) (t : TA) : TE := fun σ H Q => ta σ H fun x H1 => ∃ a dx fs, x = .ref a ∧ H1 a = some (.ins C dx fs) ∧ fs.lookup m = none ∧
 t σ H1 fun vs H2 => sp (x :: (vs ++ dvs)) H2 Q E
def Cd (C : Addr) (sp : Sp) (dvs : List V) (E : XK) (t : TA) : TE := fun σ H Q => t σ H fun vs H1 => ∀ x dx, H1 x = none → H1 dx = none → dx ≠ x →
 sp (.ref x :: (vs ++ dvs)) (upd (upd H1 dx (.own x)) x (.ins C dx [])) (fun v H2 => v = .non ∧ Q (.ref x) H2) E
def Binds (K : PySem.W.Frag) (fd : FuncData) (ps : List Str) (ds : List Value) : Prop :=
 ∀ (s : Shared) (us : List Value), K.In s.heap → (us ++ ds).length = ps.length → BindsTo s fd ⟨us, []⟩ (ps.zip (us ++ ds))
theorem Binds.all {K : PySem.W.Frag} {fd : FuncData} {ps : List Str} (h : ∀ us : List Value, us.length = ps.length → bindArgs fd ⟨us, []⟩ = pure (ps.zip us)) : Binds K fd ps [] := fun s us _ hl => by
 rw [List.append_nil] at hl ⊢
 exact .of_eq (h us hl)
def Eb (CX : CXT) (X : Cx) (E : XK) : Prop := ∀ (pins : List (Addr × Obj)) (σ : St) (H : Hp) (s : Shared) (e : Value) (s' : Shared), Inv X pins σ H s → CX X.stack H s E e s' → X.xe e s'
section
variable {X : Cx} {CX : CXT} {k : Nat} {f C : Addr} {fd : FuncData} {ps : List Str} {sp : Sp} {dvs : List V} {ds : List Value} {E : XK} {x m : Str} {p pos apos : Pos} {e o : Expr} {es : List Expr} {ta : TE} {t : TA}
theorem JF {pins : List (Addr × Obj)} {σ : St} {H : Hp} {s : Shared} {Q : VK} {us : List Value} {vs : List V} (F : BL X.prog X.w X.K X.mg X.base CX k f fd ps sp) (hr : BV k X.A) (hb : Binds X.K fd ps ds) (hd : AU dvs ds) (hx : Eb CX X E)
  (I : Inv X pins σ H s) (r : AU vs us) (h : sp (vs ++ dvs) H Q E) : wpAny (model X.prog X.w) X.A (call (.ref f) us) (EP X pins σ Q) X.xe s := by
 have r2 : AU (vs ++ dvs) (us ++ ds) := r.append hd
 have hl : (us ++ ds).length = ps.length := by rw [← r2.length]; exact F.len _ _ _ _ h
 refine wpAny_call (codeAny_mono (F.run X.A X.stack s H ⟨us, []⟩ (us ++ ds) (vs ++ dvs) Q E hr I.env0 (hb s us I.kIn hl) r2 h) fun r s' hq => ?_)
 cases r with
 | error e => exact hx pins σ H s e s' I hq
 | ok fl =>
  cases fl with
  | ret u => exact I.after hq
  | next => exact False.elim hq
  | brk => exact False.elim hq
  | cont => exact False.elim hq
theorem AT (F : BL X.prog X.w X.K X.mg X.base CX k f fd ps sp) (hr : BV k X.A) (hg : Gl X x) (hm : X.mg x = some (.ref f)) (hk : PySem.W.keepIn X.K (.ref f) = true) (hb : Binds X.K fd ps ds) (hd : AU dvs ds) (hx : Eb CX X E)
  (ha : PA X (e :: es) t) (hdb : (x == ("__debug__" : Str)) = false := by decide) (he : starEach (e :: es) X.env = (false, eval e X.env) :: starEach es X.env := by rfl) (hpl : (backTo pos (starEach es X.env)).any (·.1) = false := by rfl) :
  PE X (.Call (.Name x p) (e :: es) [] pos) (CA sp dvs E t) := by
 intro pins s σ H Q I h
 refine wpAny_Call_Name_kw (Co I hg hm ?_ hdb)
 refine PySem.W.callWith_K (h₀ := X.base) I.ok.mod.kin hk (thn (ha pos pins s σ H _ I h) fun us s1 ⟨vs, H1, I1, r, q⟩ => ⟨I1.kIn, ?_⟩) he hpl
 exact JF F hr hb hd hx I1 r q
end
section
variable {X : Cx} {CX : CXT} {k : Nat} {f C : Addr} {fd : FuncData} {ps ks : List Str} {sp : Sp} {E : XK} {x m : Str} {p pos apos kpos : Pos} {e o : Expr} {es : List Expr} {kws : List Keyword} {te ta : TE} {t tk : TA} {nm : Option Str}
variable {g : List Value → List Value → List Value} {gV : List V → List V → List V}
end
structure AY (N P : List Str) (sc : Scope) : Prop where
 kind : sc.kind = .function
 co : sc.isCoroutine = false
 gen : sc.isGenerator = false
 nd : N.Nodup
 pre : N.take P.length = P
 par : ∀ x ∈ P, sc.names.lookup x = some .local ∨ sc.names.lookup x = some .cell
 nofree : ∀ y ∈ sc.names, y.2 ≠ .free
theorem EK {kindOf : Str → Option NameKind} {x : Str} : ∀ {binds : List (Str × Value)} {m : Str → Option Value}, (∀ v, (x, v) ∉ binds) → bindL kindOf binds m x = m x
 | [], _, _ => rfl
 | (n, v) :: r, m, h => by
  unfold bindL
  rw [EK fun w hw => h w (List.mem_cons_of_mem _ hw)]
  split
  ·have : x ≠ n := by rintro rfl; exact h v List.mem_cons_self
   simp [this]
  ·rfl
theorem EB {kindOf : Str → Option NameKind} {x : Str} : ∀ {binds : List (Str × Value)} {m : Str → Option Value}, (∀ v, (x, v) ∉ binds) → bindC kindOf binds m x = m x
 | [], _, _ => rfl
 | (n, v) :: r, m, h => by
  unfold bindC
  rw [EB fun w hw => h w (List.mem_cons_of_mem _ hw)]
  split
  ·rfl
  ·have : x ≠ n := by rintro rfl; exact h v List.mem_cons_self
   simp [this]
theorem ER {kindOf : Str → Option NameKind} {x : Str} {v : Value} : ∀ {P : List Str} {vs : List Value} {i : Nat} {m : Str → Option Value}, P.Nodup → P[i]? = some x → vs[i]? = some v → kindOf x = some .local →
  bindL kindOf (P.zip vs) m x = some v
 | [], _, _, _, _, h, _, _ => by simp at h
 | _ :: _, [], _, _, _, _, h, _ => by simp at h
 | p :: P, w :: vs, 0, m, nd, h1, h2, hk => by
  simp at h1 h2; subst h1; subst h2
  show bindL kindOf ((p, w) :: P.zip vs) m p = _
  unfold bindL
  rw [EK fun v hv => (List.nodup_cons.mp nd).1 (List.of_mem_zip hv).1, if_pos hk]
  simp
 | p :: P, w :: vs, i + 1, m, nd, h1, h2, hk => by
  show bindL kindOf ((p, w) :: P.zip vs) m x = _
  unfold bindL
  exact ER (i := i) (List.nodup_cons.mp nd).2 (by simpa using h1) (by simpa using h2) hk
theorem D9 {kindOf : Str → Option NameKind} {x : Str} {v : Value} : ∀ {P : List Str} {vs : List Value} {i : Nat} {m : Str → Option Value}, P.Nodup → P[i]? = some x → vs[i]? = some v → kindOf x ≠ some .local →
  bindC kindOf (P.zip vs) m x = some v
 | [], _, _, _, _, h, _, _ => by simp at h
 | _ :: _, [], _, _, _, _, h, _ => by simp at h
 | p :: P, w :: vs, 0, m, nd, h1, h2, hk => by
  simp at h1 h2; subst h1; subst h2
  show bindC kindOf ((p, w) :: P.zip vs) m p = _
  unfold bindC
  rw [EB fun v hv => (List.nodup_cons.mp nd).1 (List.of_mem_zip hv).1, if_neg hk]
  simp
 | p :: P, w :: vs, i + 1, m, nd, h1, h2, hk => by
  show bindC kindOf ((p, w) :: P.zip vs) m x = _
  unfold bindC
  exact D9 (i := i) (List.nodup_cons.mp nd).2 (by simpa using h1) (by simpa using h2) hk
def start (N : List Str) (vs : List V) : St := vs.map some ++ List.replicate (N.length - vs.length) none
def CW (CX : CXT) (P : Program) (w : World) (K : PySem.W.Frag) (mg : Str → Option Value) (base : Heap) (N : List Str) (qual : Str) (scope : Scope) (f : Addr) (cd : Value) (A : Around) (outer : List Env) (s : Shared) (H : Hp) (E : XK) : Cx where
 prog := P
 w := w
 K := K
 mg := mg
 base := base
 A := A.deeper (envOfC qual scope s.heap.objs.size f cd)
 N := N
 s₀ := s
 H₀ := H
 env := envOfC qual scope s.heap.objs.size f cd
 outer := outer
 stack := envOfC qual scope s.heap.objs.size f cd :: outer
 ex := []
 calm := true
 fn := fun _ => true
 pn := []
 xe := fun e s' => wpAny (model P w) (A.deeper (envOfC qual scope s.heap.objs.size f cd)) (leaving (envOfC qual scope s.heap.objs.size f cd) e) (fun _ s'' => CX outer H s E e s'') (fun e' s'' => CX outer H s E e' s'') s'
theorem FK {sc : Scope} {n : Nat} {x : Str} (h : sc.names.lookup x = some .cell) : ∃ c, (cellsFrom n sc.names []).lookup x = some c := by
 have q := PySem.W.cellsFrom_some sc.names n [] (.inl h)
 exact Option.isSome_iff_exists.mp q
theorem GS {CX : CXT} {P : Program} {w : World} {K : PySem.W.Frag} {mg : Str → Option Value} {base : Heap} {N ps : List Str} {qual : Str} {scope : Scope} {f : Addr} {cd : Value} {A : Around} {outer : List Env} {s s1 : Shared} {H : Hp} {E : XK} {us : List Value} {vs : List V}
  (S : AY N ps scope) (hd : A.handled = none) (e0 : HP P w K mg base A outer s H) (hl : vs.length = ps.length) (r : AU vs us)
  (x : InCallC s s.heap.objs.size (bindL (envOfC qual scope s.heap.objs.size f cd).kindOf (ps.zip us) fun _ => none) (cellsFrom (s.heap.objs.size + 1) scope.names []) (bindC (envOfC qual scope s.heap.objs.size f cd).kindOf (ps.zip us) fun _ => none) s1) :
  Inv (CW CX P w K mg base N qual scope f cd A outer s H E) [] (start N vs) H s1 := by
 have hpl : ps.length ≤ N.length := by have := congrArg List.length S.pre; rw [List.length_take] at this; omega
 obtain ⟨h1, tk, rfl, hk⟩ := x.done
 have noA : ∀ b : Addr, b ∉ (CW CX P w K mg base N qual scope f cd A outer s H E).ex := fun b z => absurd (show b ∈ ([] : List Addr) from z) (by simp)
 refine ⟨⟨e0.mod, S.kind, rfl, rfl, Nat.le_refl _, fun y z c h1 h2 => ?_, fun y hy => ?_, fun y c _ h => ?_, fun _ => hd, Around.frames_deeper e0.frames, .inr ⟨rfl, rfl⟩, fun b z => absurd z (noA b), e0.bs, e0.bsz, fun b _ _ => noA b, fun b z => absurd z (noA b), e0.funs, e0.frf⟩,
  rfl, e0.bare, Un.kept hk, ⟨_, x.toInCall.ns, fun i y v h1 h2 h3 => ?_⟩, fun y c h => ⟨_, x.cell y c h⟩, e0.hok.fresh (Nat.le_refl _), fun y c h => ?_, fun p hp => absurd (show p ∈ ([] : List (Addr × Obj)) from hp) (by simp), e0.hok.kept hk, ?_⟩
 ·exact name_of_addr x.apart (PySem.mem_of_lookup h1) (PySem.mem_of_lookup h2)
 ·have hy : scope.names.lookup y = some .cell ∨ scope.names.lookup y = some .free := hy
  rcases hy with hy | hy
  ·exact FK hy
  ·exact absurd rfl (S.nofree _ (PySem.mem_of_lookup hy))
 ·exact Nat.le_of_lt (x.above y c (PySem.mem_of_lookup h))
 ·have hi : i < vs.length := by
   unfold start at h2
   by_cases hi : i < vs.length
   ·exact hi
   ·rw [List.getElem?_append_right (by simpa using hi)] at h2
    rw [List.getElem?_replicate] at h2
    split at h2 <;> cases h2
  have ha : vs[i]? = some v := by
   unfold start at h2
   rw [List.getElem?_append_left (by simpa using hi), List.getElem?_map] at h2
   cases e : vs[i]? with
   | none => rw [e] at h2; cases h2
   | some a => rw [e] at h2; cases h2; rfl
  obtain ⟨u, hu, rv⟩ := r.get ha
  have hp : ps[i]? = some y := by
   rw [← S.pre, List.getElem?_take_of_lt (by omega)]; exact h1
  have ndP : ps.Nodup := by rw [← S.pre]; exact S.nd.sublist (List.take_sublist _ _)
  refine ⟨u, rv, ?_⟩
  rcases S.par y (List.mem_of_getElem? hp) with k | k
  ·exact .inl ⟨k, ER ndP hp hu k⟩
  ·obtain ⟨c, e⟩ := FK (n := s.heap.objs.size + 1) k
   refine .inr ⟨.inl k, c, e, ?_⟩
   have q := x.cell y c e
   rw [D9 ndP hp hu (by show scope.names.lookup y ≠ _; rw [k]; decide)] at q
   exact q
 ·exact e0.hok.fresh (Nat.le_of_lt (x.above y c (PySem.mem_of_lookup h)))
 ·unfold start
  show _ = N.length
  rw [List.length_append, List.length_map, List.length_replicate]
  omega
theorem IE {CX : CXT} {P : Program} {w : World} {K : PySem.W.Frag} {mg : Str → Option Value} {base : Heap} {k : Nat} {f : Addr} {name qual : Str} {params : Arguments} {body : List Stmt} {scope : Scope} {dV kV doc pm cdv ct oc : Value} {an od : Option Addr}
  {osl : Array (Option Value)} {N ps : List Str} {sp : Sp} (lk : K.lookup f = some ⟨oc, od, .func (PySem.W.fnOf name qual params body scope dV kV doc pm an cdv ct), osl⟩) (hcd : PySem.W.codeIn K cdv qual = true) (S : AY N ps scope)
  (len : ∀ vs H Q E, sp vs H Q E → vs.length = ps.length)
  (hbody : ∀ (A : Around) (outer : List Env) (s : Shared) (H : Hp) (vs : List V) (Q : VK) (E : XK), BV k (A.deeper (envOfC qual scope s.heap.objs.size f cdv)) → sp vs H Q E →
   ∃ t, PSs (CW CX P w K mg base N qual scope f cdv A outer s H E) body t ∧ t { nx := fun _ H' => Q .non H', rt := Q } (start N vs) H) :
  BL P w K mg base CX (k + 1) f (PySem.W.fnOf name qual params body scope dV kV doc pm an cdv ct) ps sp := by
 refine ⟨len, fun A outer s H args us vs Q E hr e0 hb r hsp => ?_⟩
 have hl := len _ _ _ _ hsp
 have KX : K.In s.heap := e0.mod.kin.keeps fun b o e => (e0.bs b o e).1
 have lim : s.heap.NoLimit := e0.mod.nolimit.keeps fun b o e => (e0.bs b o e).1
 have hkind : ∀ y ∈ ps.zip us, scope.names.lookup y.1 = some .local ∨ (scope.names.lookup y.1 = some .cell ∧ ((cellsFrom (s.heap.objs.size + 1) scope.names []).lookup y.1).isSome = true) := fun ⟨n, v⟩ hy => by
  rcases S.par n (List.of_mem_zip hy).1 with q | q
  ·exact .inl q
  ·exact .inr ⟨q, PySem.W.cellsFrom_some _ _ _ (.inl q)⟩
 refine codeAny_call_function hr.depth (KX _ _ lk) rfl S.co S.gen rfl (PySem.W.codeRec_of KX hcd) (hb _ _ _ _ ?_)
 refine wpAny_newFunctionEnv_cells S.kind hkind fun env he s1 x => ?_
 subst he
 refine ⟨lim.keeps x.toInCall.keep, codeAny_func ?_⟩
 obtain ⟨t, ht, hq⟩ := hbody A outer s H vs Q E (hr.deeper _) hsp
 have I : Inv (CW CX P w K mg base N qual scope f cdv A outer s H E) [] (start N vs) H s1 := GS S hr.hd e0 hl r x
 refine wpAny_mono (ht [] s1 (start N vs) H _ I hq) (fun fl s' hs => ?_) fun e s' hs => hs
 have fin : ∀ {σ' : St} {H' : Hp} {v : V} {u : Value}, Inv (CW CX P w K mg base N qual scope f cdv A outer s H E) [] σ' H' s' → RelV v u → Q v H' → CE outer P w H s Q u s' :=
  fun {σ' H' v u} J rv q => ⟨v, H', J.os, J.bare, J.base, J.hok, rv, q⟩
 cases fl with
 | ret u =>
  obtain ⟨v, σ', H', J, rv, q⟩ := hs
  exact fin J rv q
 | next =>
  obtain ⟨σ', H', J, q⟩ := hs
  exact fin (v := V.non) (u := Value.none) J rfl q
 | brk =>
  obtain ⟨_, _, _, q⟩ := hs
  exact False.elim q
 | cont =>
  obtain ⟨_, _, _, q⟩ := hs
  exact False.elim q
end L2
namespace L2
open PySem PySem.Spec PyProof.Rows
section
variable {X : Cx} {x : Str} {p pos : Pos} {e : Expr} {es : List Expr} {t : TA} {id T : String} {r : List V → Hp → VK → Prop}
def tCB (r : List V → Hp → VK → Prop) (t : TA) : TE := fun σ H Q => t σ H fun vs H1 => r vs H1 Q
theorem AR (hc : C3 X (.builtin id) r) (hg : Gl X x) (hm : X.mg x = none) (hv : bootBuiltins x = some (.builtin id)) (ha : PA X (e :: es) t) (hn : x ≠ "__name__" := by decide) (hdb : (x == ("__debug__" : Str)) = false := by decide)
  (he : starEach (e :: es) X.env = (false, eval e X.env) :: starEach es X.env := by rfl) (hpl : (backTo pos (starEach es X.env)).any (·.1) = false := by rfl) : PE X (.Call (.Name x p) (e :: es) [] pos) (tCB r t) := by
 intro pins s σ H Q I h
 refine wpAny_Call_Name_kw (EV I hg hm hv ?_ hn hdb)
 exact PyProof.Rows.callWith_builtin1 (thn (ha pos pins s σ H _ I h) fun us s1 ⟨vs, H1, I1, r1, q1⟩ => hc pins s1 σ H1 vs us Q I1 r1 q1) he hpl
theorem AV (hc : C3 X (.type T) r) (hg : Gl X x) (hm : X.mg x = none) (hv : bootBuiltins x = some (.type T)) (ha : PA X (e :: es) t) (hn : x ≠ "__name__" := by decide) (hdb : (x == ("__debug__" : Str)) = false := by decide)
  (he : starEach (e :: es) X.env = (false, eval e X.env) :: starEach es X.env := by rfl) (hpl : (backTo pos (starEach es X.env)).any (·.1) = false := by rfl) : PE X (.Call (.Name x p) (e :: es) [] pos) (tCB r t) := by
 intro pins s σ H Q I h
 refine wpAny_Call_Name_kw (EV I hg hm hv ?_ hn hdb)
 exact PyProof.Rows.callWith_type1 (thn (ha pos pins s σ H _ I h) fun us s1 ⟨vs, H1, I1, r1, q1⟩ => hc pins s1 σ H1 vs us Q I1 r1 q1) he hpl
end
end L2
namespace HT
open PySem PyProof.Rows
def lexLt : List Int → List Int → Bool
 | [], [] => false
 | [], _ :: _ => true
 | _ :: _, [] => false
 | x :: xs, y :: ys => if x = y then lexLt xs ys else decide (x < y)
section
open PySem.SeqAt
open PySem.AutoSeq1 (wpAny_loadPart')
open PySem.MeetsSeq PySem.MeetsSeq2 PySem.MeetsSeq3
end
section
variable {prog : Program} {w : World} {A : Around} {E : Value → Shared → Prop} {s : Shared}
def sIx (n d : Nat) : Option Int → Nat
 | none => d
 | some v => if v < 0 then (v + (n : Int)).toNat else min v.toNat n
end
end HT
namespace L2
open PySem PySem.Spec PyProof.Rows
abbrev TO := St → Hp → (Option Int → Hp → Prop) → Prop
def PO (X : Cx) (e : Option Expr) (t : TO) : Prop :=
 ∀ (pins : List (Addr × Obj)) (s : Shared) (σ : St) (H : Hp) (Q : Option Int → Hp → Prop), Inv X pins σ H s → t σ H Q →
  wpAny (model X.prog X.w) X.A (evalPart e X.env) (fun u s' => ∃ o H', Inv X pins σ H' s' ∧ IsPart u o ∧ Q o H') X.xe s
def Az : TO := fun _ H Q => Q none H
def CG (t : TE) : TO := fun σ H Q => t σ H fun x H1 => ∃ i, x = .int i ∧ Q (some i) H1
section
variable {X : Cx} {e : Expr} {te : TE} {lo hi : Option Expr} {tl th : TO} {pos p2 : Pos}
theorem Ha : PO X none Az := by
 intro pins s σ H Q I h
 rw [evalPart_none]
 exact wpAny_pure ⟨none, H, I, .none, h⟩
theorem Hk (h : PE X e te) : PO X (some e) (CG te) := by
 intro pins s σ H Q I hw
 rw [evalPart_some]
 refine thn (h pins s σ H _ I hw) fun u s1 ⟨x, H1, I1, r1, q1⟩ => ?_
 obtain ⟨i, rfl, q⟩ := q1
 obtain ⟨t, rfl⟩ := r1
 exact ⟨some i, H1, I1, .int i t, q⟩
def SlR (X : Cx) (r : V → Option Int → Option Int → Hp → VK → Prop) : Prop :=
 ∀ (pins : List (Addr × Obj)) (s : Shared) (σ : St) (H : Hp) (x : V) (v vl vu : Value) (lo hi : Option Int) (sl : Addr) (Q : VK), Inv X pins σ H s → RelV x v → s.heap.IsSliceOf sl vl vu .none → IsPart vl lo → IsPart vu hi → r x lo hi H Q →
  ∃ T id, typeLookup (.type T) "__getitem__" = pure (some (.builtin id)) ∧ s.TypeIs v T ∧ wpAny (model X.prog X.w) X.A (getItem v (.ref sl)) (EP X pins σ Q) X.xe s
def tSl (r : V → Option Int → Option Int → Hp → VK → Prop) (te : TE) (tl th : TO) : TE := fun σ H Q => te σ H fun x H1 => tl σ H1 fun l H2 => th σ H2 fun u H3 => r x l u H3 Q
theorem Gy {r : V → Option Int → Option Int → Hp → VK → Prop} (hr : SlR X r) (he : PE X e te) (hl : PO X lo tl) (hu : PO X hi th) : PE X (.Subscript e (.Slice lo hi none p2) pos) (tSl r te tl th) := by
 intro pins s σ H Q I h
 refine Subscript_ (thn (he pins s σ H _ I h) fun v s1 ⟨x, H1, I1, r1, q1⟩ => ?_)
 refine wpAny_Slice (thn (hl pins s1 σ H1 _ I1 q1) fun vl s2 ⟨l, H2, I2, pl, q2⟩ => thn (hu pins s2 σ H2 _ I2 q2) fun vu s3 ⟨u, H3, I3, pu, q3⟩ => ?_)
 rw [evalPart_none]
 refine wpAny_pure ?_
 have I4 : Inv X pins σ H3 { s3 with heap := s3.heap.push { cls := .type "slice", data := .fields #[vl, vu, .none] } } := I3.kept (t' := s3.toks) fun b ob q => Heap.get?_push_of_some _ q
 obtain ⟨T, id, hT, ht, hg⟩ := hr pins { s3 with heap := s3.heap.push { cls := .type "slice", data := .fields #[vl, vu, .none] } } σ H3 x v vl vu l u s3.heap.objs.size Q I4 r1 (Heap.IsSliceOf.new ..) pl pu q3
 show wpAny (model X.prog X.w) X.A (subscriptTail e (.Slice lo hi none p2) v (.ref s3.heap.objs.size)) (EP X pins σ Q) X.xe { s3 with heap := s3.heap.push { cls := .type "slice", data := .fields #[vl, vu, .none] } }
 exact tail_any (ops := [.ref s3.heap.objs.size, v]) ht hT hg (by with_unfolding_all rfl)
def cutV (xs : List V) (lo hi : Option Int) : List V := (xs.drop (HT.sIx xs.length 0 lo)).take (HT.sIx xs.length xs.length hi - HT.sIx xs.length 0 lo)
end
end L2
namespace L2
open PySem PySem.Spec PyProof.Rows
def ixN (n : Nat) (i : Int) : Option Nat := if 0 ≤ i then (if i < n then some i.toNat else none) else if -(n : Int) ≤ i then some (i + n).toNat else none
def atI {α : Type} (xs : List α) (i : Int) : Option α := (ixN xs.length i).bind fun j => xs[j]?
theorem HS {n : Nat} {i : Int} {j : Nat} (h : ixN n i = some j) : seqIndex? i n = some j ∧ j < n ∧ -(n : Int) ≤ i ∧ i < n := by
 unfold ixN at h
 by_cases h0 : 0 ≤ i
 ·rw [if_pos h0] at h
  by_cases h1 : i < n
  ·rw [if_pos h1] at h
   have e : i.toNat = j := Option.some.inj h
   exact ⟨by rw [seqIndex_of h0 h1, e], by omega, by omega, h1⟩
  ·rw [if_neg h1] at h; cases h
 ·rw [if_neg h0] at h
  by_cases h1 : -(n : Int) ≤ i
  ·rw [if_pos h1] at h
   have e : (i + n).toNat = j := Option.some.inj h
   exact ⟨by rw [seqIndex_neg (by omega) h1, e], by omega, h1, by omega⟩
  ·rw [if_neg h1] at h; cases h
theorem F8 {α : Type} {xs : List α} {i : Int} {v : α} (h : atI xs i = some v) : ∃ j, seqIndex? i xs.length = some j ∧ xs[j]? = some v ∧ j < xs.length ∧ -(xs.length : Int) ≤ i ∧ i < xs.length := by
 unfold atI at h
 cases e : ixN xs.length i with
 | none => rw [e] at h; cases h
 | some j =>
  rw [e] at h
  obtain ⟨h1, h2, h3, h4⟩ := HS e
  exact ⟨j, h1, h, h2, h3, h4⟩
theorem E5 {α : Type} {xs : List α} {j : Nat} {v : α} (h : xs[j]? = some v) : atI xs (j : Int) = some v := by
 have hj : j < xs.length := (List.getElem?_eq_some_iff.mp h).1
 have e : ixN xs.length (j : Int) = some j := by
  unfold ixN
  rw [if_pos (by omega), if_pos (by omega)]; simp
 unfold atI; rw [e]; exact h
def He (b : Expr) : Prop := ∀ o i, subscripted b false o i = operate [o, i] (getItem o i)
def IxR (X : Cx) (r : R2) : Prop :=
 ∀ (value slice : Expr) (pins : List (Addr × Obj)) (s : Shared) (σ : St) (H : Hp) (x y : V) (v u : Value) (Q : VK), Inv X pins σ H s → RelV x v → RelV y u → r x y H Q →
  subscripted slice false v u = operate [v, u] (getItem v u) → wpAny (model X.prog X.w) X.A (subscriptTail value slice v u) (EP X pins σ Q) X.xe s
def MtR (X : Cx) (id : String) (r : V → List V → Hp → VK → Prop) : Prop :=
 ∀ (pins : List (Addr × Obj)) (s : Shared) (σ : St) (H : Hp) (x : V) (xs : List V) (v : Value) (us : List Value) (Q : VK), Inv X pins σ H s → RelV x v → AU xs us → r x xs H Q →
  wpAny (model X.prog X.w) X.A (call (.builtin id) (v :: us)) (EP X pins σ Q) X.xe s
section
variable {X : Cx} {a b : Expr} {ta tb : TE} {pos : Pos}
theorem CB {r : R2} (hr : IxR X r) (ha : PE X a ta) (hb : PE X b tb) (hs : He b) : PE X (.Subscript a b pos) (tOp r ta tb) := by
 intro pins s σ H Q I h
 exact Subscript_ (Ix ha hb I h fun v u s2 x y H2 I2 rx ry q => hr a b pins s2 σ H2 x y v u Q I2 rx ry q (hs _ _))
def D6 (K : PySem.W.Frag) : R2 := fun x y H Q => ∃ p xs i v, x = .ref p ∧ y = .int i ∧ SqL K H p xs ∧ atI xs i = some v ∧ Q v H
def Dx (K : PySem.W.Frag) : R2 := fun x y H Q => ∃ p xs i v, x = .ref p ∧ y = .int i ∧ SqT K H p xs ∧ atI xs i = some v ∧ Q v H
theorem Cy : IxR X (D6 X.K) := by
 intro value slice pins s σ H x y v u Q I rx ry h hs
 obtain ⟨p, xs, i, z, rfl, rfl, hq, he, q⟩ := h
 cases rx
 obtain ⟨t, rfl⟩ := ry
 obtain ⟨its, r, pl, hz⟩ := I.list hq
 obtain ⟨j, h1, h2, h3, h4, h5⟩ := F8 he
 obtain ⟨w, ew, rw'⟩ := r.get h2
 have hl := r.length
 have hn := EX
 have fin : EP X pins σ Q w s := ⟨z, H, I, rw', q⟩
 by_cases h0 : 0 ≤ i
 ·have hj : i.toNat = j := by
   rw [seqIndex_of h0 h5] at h1
   exact Option.some.inj h1
  exact item_listR pl.isList h0 (by omega) (by rw [hj]; simpa using ew) fin hs
 ·have hj : (i + (its.toArray.size : Int)).toNat = j := by
   rw [seqIndex_neg (by omega) h4] at h1
   rw [List.size_toArray, ← hl]
   exact Option.some.inj h1
  exact subscriptTail_builtinR (x := w) pl.isList.typeIs slot_list_getitem.lookup
   (wpAny_getItem_list_neg (Q := fun r s' => r = w ∧ EP X pins σ Q r s') pl.isList (by omega) (by rw [List.size_toArray] <;> omega) (by omega) (by rw [hj]; simpa using ew) ⟨rfl, fin⟩) hs
theorem Dd : IxR X (Dx X.K) := by
 intro value slice pins s σ H x y v u Q I rx ry h hs
 obtain ⟨p, xs, i, z, rfl, rfl, hq, he, q⟩ := h
 cases rx
 obtain ⟨t, rfl⟩ := ry
 obtain ⟨its, r, pl, hz⟩ := I.tuple hq
 obtain ⟨j, h1, h2, h3, h4, h5⟩ := F8 he
 obtain ⟨w, ew, rw'⟩ := r.get h2
 have hl := r.length
 have hn := EX
 have fin : EP X pins σ Q w s := ⟨z, H, I, rw', q⟩
 exact subscriptTail_builtinR (x := w) pl.typeIs slot_tuple_getitem.lookup
  (getItem_tuple (j := j) (Q := fun r s' => r = w ∧ EP X pins σ Q r s') pl (by omega) (by omega) (by rw [List.size_toArray, ← hl]; exact h1) (by simpa using ew) ⟨rfl, fin⟩) hs
def C2 : V → V → V → Hp → (Hp → Prop) → Prop := fun o i v H Q => ∃ p xs k j, o = .ref p ∧ i = .int k ∧ H p = some (.lst xs) ∧ ixN xs.length k = some j ∧ Q (upd H p (.lst (xs.set j v)))
def IP : V → Bool
 | .non => true
 | .bl _ => true
 | .int _ => true
 | .str _ => true
 | _ => false
def eqV : V → V → Bool
 | .non, .non => true
 | .bl a, .bl b => a == b
 | .bl a, .int b => (if a then 1 else 0) == b
 | .int a, .bl b => a == (if b then 1 else 0)
 | .int a, .int b => a == b
 | .str a, .str b => a == b
 | _, _ => false
def inV (x : V) (xs : List V) : Bool := xs.any fun y => eqV y x
def rIn (K : PySem.W.Frag) (neg : Bool) : R2 := fun x y H Q => ∃ p xs, y = .ref p ∧ (SqL K H p xs ∨ SqT K H p xs) ∧ IP x = true ∧ xs.all IP = true ∧ Q (.bl (if neg then !inV x xs else inV x xs)) H
theorem Ah : C3 X (.builtin "len") (fun xs H Q => ∃ p ys, xs = [.ref p] ∧ (SqL X.K H p ys ∨ SqT X.K H p ys) ∧ Q (.int ys.length) H) := by
 intro pins s σ H xs us Q I r h
 obtain ⟨p, ys, rfl, hq, q⟩ := h
 obtain ⟨u, rfl, rx⟩ := vals1 r
 cases rx
 have hn := EX
 rcases hq with hq | hq
 ·obtain ⟨its, r', pl, hz⟩ := I.list hq
  have hlen := r'.length
  exact Calls.call_len_list pl.isList (by simp only [List.size_toArray] <;> omega) ⟨.int ys.length, H, I.tok _, ⟨s.toks + 1, by rw [List.size_toArray, hlen]⟩, q⟩
 ·obtain ⟨its, r', pl, hz⟩ := I.tuple hq
  have hlen := r'.length
  exact len_tuple pl (by simp only [List.size_toArray] <;> omega) ⟨.int ys.length, H, I.tok _, ⟨s.toks + 1, by rw [List.size_toArray, hlen]⟩, q⟩
theorem Cf : C3 X (.builtin "len") (fun xs H Q => ∃ z, xs = [.str z] ∧ z.length ≤ sizeLine ∧ Q (.int z.length) H) := by
 intro pins s σ H xs us Q I r h
 obtain ⟨z, rfl, hz, q⟩ := h
 obtain ⟨u, rfl, t, rfl⟩ := vals1 r
 have hn := EX
 exact len_str (by omega) ⟨.int z.length, H, I.tok _, ⟨_, rfl⟩, q⟩
def tyV (K : PySem.W.Frag) (T : String) (x : V) (H : Hp) : Prop := match x with
 | .str _ => T = "str"
 | .int _ => T = "int"
 | .ref p => (T = "list" ∧ ∃ xs, SqL K H p xs) ∨ (T = "tuple" ∧ ∃ o, K.lookup p = some o ∧ o.cls = .type "tuple" ∧ o.dict = none) ∨
   (T = "dict" ∧ ((∃ kvs, H p = some (.dK kvs)) ∨ ∃ kvs, H p = some (.dT kvs))) ∨ (T = "set" ∧ ∃ S n, H p = some (.set S n))
 | _ => False
theorem JN {pins : List (Addr × Obj)} {σ : St} {H : Hp} {s : Shared} {T : String} {x : V} {v : Value} (I : Inv X pins σ H s) (r : RelV x v) (ty : tyV X.K T x H) :
  s.TypeIs v T ∧ ∀ a, v = .ref a → ∃ ob, s.heap.get? a = some ob ∧ ob.dict = none := by
 cases x with
 | str z =>
  obtain ⟨t, rfl⟩ := r
  cases (show T = "str" from ty)
  exact ⟨typeIs_str s z t, fun _ e => nomatch e⟩
 | int i =>
  obtain ⟨t, rfl⟩ := r
  cases (show T = "int" from ty)
  exact ⟨typeIs_int s i t, fun _ e => nomatch e⟩
 | ref p =>
  cases r
  rcases ty with ⟨rfl, xs, hq⟩ | ⟨rfl, o, hk, hc, hd⟩ | ⟨rfl, hk⟩ | ⟨rfl, S, n, hk⟩
  ·obtain ⟨its, _, pl, _⟩ := I.list hq
   refine ⟨pl.isList.typeIs, fun a e => ?_⟩
   cases e
   obtain ⟨o, n, e, c, hd, _⟩ := pl
   exact ⟨o, e, hd⟩
  ·refine ⟨⟨o, I.kIn p o hk, hc⟩, fun a e => ?_⟩
   cases e
   exact ⟨o, I.kIn _ o hk, hd⟩
  ·have z : ∃ o, s.heap.get? p = some o ∧ o.ExactDict := by
    rcases hk with ⟨kvs, hk⟩ | ⟨kvs, hk⟩
    ·obtain ⟨_, _, _, _, o, _, _, e, ex, _⟩ := I.hok p _ hk
     exact ⟨o, e, ex⟩
    ·obtain ⟨_, _, _, _, o, _, _, e, ex, _⟩ := I.hok p _ hk
     exact ⟨o, e, ex⟩
   obtain ⟨o, e, ex⟩ := z
   refine ⟨⟨o, e, ex.1⟩, fun a e2 => ?_⟩
   cases e2
   exact ⟨o, e, ex.2.1⟩
  ·obtain ⟨o, _, _, _, e, ex, _⟩ := I.hok p _ hk
   refine ⟨⟨o, e, ex.1⟩, fun a e2 => ?_⟩
   cases e2
   exact ⟨o, e, ex.2.1⟩
 | _ => exact False.elim ty
def tBM (K : PySem.W.Frag) (T : String) (r : V → List V → Hp → VK → Prop) (to : TE) (t : TA) : TE := fun σ H Q => to σ H fun x H1 => tyV K T x H1 ∧ t σ H1 fun xs H2 => r x xs H2 Q
variable {o e : Expr} {es : List Expr} {to : TE} {t : TA} {name : Str} {apos cpos : Pos} {T id : String} {r : V → List V → Hp → VK → Prop}
theorem F4 (pa : PlainAttrs T) (slot : Slot T name id) (hty : typeOf (.builtin id) = pure (.type "method_descriptor")) (hm : MtR X id r) (ho : PE X o to) (ha : PA X (e :: es) t)
  (hbase : attributeBase o name X.env (eval o X.env) = eval o X.env := by rfl)
  (hfew : ((backTo cpos (starEach (e :: es) X.env)).all (fun x => !x.1) && (backToKw cpos (keywordEach [] X.env)).all (fun x => x.1.isSome)
   && decide ((e :: es).length + ([] : List Keyword).length + (if ([] : List Keyword).isEmpty then 0 else 1) < 30)) = true := by rfl)
  (hline : (apos.endLine == cpos.line) = true := by rfl) (hs : starEach (e :: es) X.env = (false, eval e X.env) :: starEach es X.env := by rfl) (hplain : (backTo cpos (starEach es X.env)).any (·.1) = false := by rfl) :
  PE X (.Call (.Attribute o name apos) (e :: es) [] cpos) (tBM X.K T r to t) := by
 intro pins s σ H Q I h
 refine wpAny_Call_method_late hbase hfew hline rfl (thn (ho pins s σ H _ I h) fun v s1 ⟨x, H1, I1, r1, ty, q1⟩ => ?_)
 obtain ⟨h1, h2⟩ := JN I1 r1 ty
 refine ⟨T, id, pa, slot, hty, h1, h2, ?_⟩
 have hA := ha cpos pins s1 σ H1 _ I1 q1
 rw [hs] at hA ⊢
 refine Calls.callWith_builtin (by show (false || (backTo cpos (starEach es X.env)).any (·.1)) = false; rw [hplain] <;> rfl) (Calls.evalArgs_plain ?_)
 exact thn hA fun us s2 ⟨vs, H2, I2, r2, q2⟩ => hm pins s2 σ H2 x vs v us Q I2 r1 r2 q2
end
end L2
namespace L2
open PySem PySem.Spec PyProof.Rows
def MtM (X : Cx) (id : String) (r : V → List V → Hp → VK → Prop) : Prop :=
 ∀ (pins : List (Addr × Obj)) (s : Shared) (σ : St) (H : Hp) (x : V) (xs : List V) (v : Value) (us : List Value) (Q : VK), Inv X pins σ H s → RelV x v → AU xs us → r x xs H Q →
  wpAny (model X.prog X.w) X.A (call (.builtin id) (v :: us)) (EP X pins σ Q) X.xe s
theorem AU.one : ∀ {x : V} {us : List Value}, AU [x] us → ∃ u, us = [u] ∧ RelV x u
 | _, _, .cons r .nil => ⟨_, rfl, r⟩
section
variable {X : Cx} {pins : List (Addr × Obj)} {σ : St} {H : Hp} {s : Shared} {l b : Addr} {xs ys zs : List V}
theorem Inv.lset {its its' : List Value} {n : Nat} {f : Array Value → Array Value} {t' : Nat} (I : Inv X pins σ H s) (hH : H l = some (.lst xs))
  (e : s.heap.get? l = some { cls := .type "list", data := .seq its.toArray n }) (hf : f its.toArray = its'.toArray) (hv : AU ys its') (hz : ys.length ≤ sizeLine) :
  Inv X pins σ (upd H l (.lst ys)) { s with heap := s.heap.update l (Obj.mapSeq f), toks := t' } := by
 have q := PySem.IsL.update e f
 rw [hf] at q
 refine I.write (x := l) (e := l) (by rw [hH]; exact trivial) (.inl rfl) (fun b' u hb hu => (Heap.get?_update_other s.heap (Obj.mapSeq f) (Ne.symm hb)).trans hu) ⟨_, q⟩ ?_
 exact ⟨hz, its', _, hv, q⟩
theorem Inv.lnew {its : List Value} {t' : Nat} (I : Inv X pins σ H s) (hv : AU ys its) (hz : ys.length ≤ sizeLine) :
  Inv X pins σ (upd H s.heap.objs.size (.lst ys)) { s with heap := s.heap.push { cls := .type "list", data := .seq its.toArray }, toks := t' } :=
 I.laid (fun _ _ q => Heap.get?_push_of_some _ q) (Nat.le_refl _) ⟨hz, its, 0, hv, Heap.get?_push_size _ rfl⟩
theorem Inv.fresh (I : Inv X pins σ H s) : H s.heap.objs.size = none := I.hok.fresh (Nat.le_refl _)
theorem Inv.lstM (I : Inv X pins σ H s) (hH : H l = some (.lst xs)) : xs.length ≤ sizeLine ∧ ∃ (its : List Value) (n : Nat), AU xs its ∧ xs.length = its.length ∧ s.heap.get? l = some { cls := .type "list", data := .seq its.toArray n } := by
 obtain ⟨z, its, n, r, e⟩ := I.hok l _ hH
 exact ⟨z, its, n, r, r.length, e⟩
end
section
variable {X : Cx}
def Hf : V → List V → Hp → VK → Prop := fun x vs H Q => ∃ l xs y, x = .ref l ∧ vs = [y] ∧ H l = some (.lst xs) ∧ xs.length < sizeLine ∧ Q .non (upd H l (.lst (xs ++ [y])))
theorem GN : MtM X "list.append" Hf := by
 intro pins s σ H x vs v us Q I rx rv h
 obtain ⟨l, xs, y, rfl, rfl, hH, hz, q⟩ := h
 cases rx
 obtain ⟨u, rfl, ru⟩ := rv.one
 obtain ⟨z, its, n, r, hl, e⟩ := I.lstM hH
 refine call_meets F.slot_list_append ⟨_, e, rfl⟩ F.entry_list_append (F.args_list_append_2 _ _) (PySem.list_append l its.toArray n u (by rw [List.size_toArray]; omega)) ⟨e, ?_⟩
 refine ⟨.non, _, I.lset (its' := its ++ [u]) hH e (by simp) (r.append (.cons ru .nil)) ?_, rfl, q⟩
 rw [List.length_append, List.length_singleton]
 omega
def rCat : R2 := fun x y H Q => ∃ l b xs zs, x = .ref l ∧ y = .ref b ∧ H l = some (.lst xs) ∧ H b = some (.lst zs) ∧ xs.length + zs.length ≤ sizeLine ∧ ∀ p, H p = none → Q (.ref p) (upd H p (.lst (xs ++ zs)))
theorem Ia : OpR X (binaryOp .Add) rCat := by
 intro pins s σ H x y v u Q I rx ry h
 obtain ⟨l, b, xs, zs, rfl, rfl, hH, hB, hz, q⟩ := h
 cases rx
 cases ry
 obtain ⟨z, its, n, r, hl, e⟩ := I.lstM hH
 obtain ⟨z2, its2, n2, r2, hl2, e2⟩ := I.lstM hB
 refine PySem.P.add_list e e2 ?_ (by rw [List.size_toArray, List.size_toArray]; omega)
 have ea : its.toArray ++ its2.toArray = (its ++ its2).toArray := by simp
 rw [ea]
 exact ⟨.ref _, _, I.lnew (t' := s.toks) (r.append r2) (by rw [List.length_append]; omega), rfl, q _ I.fresh⟩
end
section
variable {prog : Program} {w : World} {A : Around} {E : Value → Shared → Prop} {s : Shared}
set_option maxRecDepth 100000 in
end
section
variable {X : Cx}
end
end L2
namespace L2
open PySem PySem.Spec PyProof.Rows
section
variable {κ : Type} [DecidableEq κ]
def Iu (kvs : List (κ × V)) (k : κ) : Option V := (kvs.find? fun kv => decide (kv.1 = k)).map (·.2)
def putK (kvs : List (κ × V)) (k : κ) (v : V) : List (κ × V) :=
 if (kvs.any fun kv => decide (kv.1 = k)) = true then kvs.map (fun kv => if kv.1 = k then (kv.1, v) else kv) else kvs ++ [(k, v)]
def dropK (kvs : List (κ × V)) (k : κ) : List (κ × V) := kvs.filter fun kv => decide (kv.1 ≠ k)
end
section
variable {P : Program} {w : World} {H : Hp} {h : Heap} {a : Addr}
end
def Hx (H : Hp) (a : Addr) (y : V) (r : Option V) : Prop :=
 (∃ kvs k, Rd H a (.dK kvs) ∧ y = kV k ∧ r = Iu kvs k) ∨ ∃ kvs k b, Rd H a (.dT kvs) ∧ y = .ref b ∧ H b = some (.tup (k.map kV)) ∧ r = Iu kvs k
def DPut (H : Hp) (a : Addr) (y v : V) (H' : Hp) : Prop :=
 (∃ kvs k, H a = some (.dK kvs) ∧ y = kV k ∧ kvs.length < sizeLine ∧ H' = upd H a (.dK (putK kvs k v))) ∨
 ∃ kvs k b, H a = some (.dT kvs) ∧ y = .ref b ∧ H b = some (.tup (k.map kV)) ∧ kvs.length < sizeLine ∧ H' = upd H a (.dT (putK kvs k v))
section
variable {X : Cx} {pins : List (Addr × Obj)} {σ : St} {H : Hp} {s : Shared} {a : Addr} {y v : V} {u r : Value} {o : Option V} {A : Around} {E : Value → Shared → Prop}
end
section
variable {X : Cx} {pins : List (Addr × Obj)} {σ : St} {H : Hp} {s : Shared} {a : Addr} {kvs : List (Key × V)} {k : Key} {u : Value} {A : Around} {E : Value → Shared → Prop}
end
def Cs (td ty : TE) : TE := fun σ H Q => td σ H fun x H1 => ty σ H1 fun y H2 => ∃ a v, x = .ref a ∧ Hx H2 a y (some v) ∧ Q v H2
def Ey (ty td : TE) : TE := fun σ H Q => ty σ H fun y H1 => td σ H1 fun x H2 => ∃ a o, x = .ref a ∧ Hx H2 a y o ∧ Q (.bl o.isSome) H2
def BE (ty td : TE) : TE := fun σ H Q => ty σ H fun y H1 => td σ H1 fun x H2 => ∃ a o, x = .ref a ∧ Hx H2 a y o ∧ Q (.bl (!o.isSome)) H2
def CY (td ty tv : TE) : TS := fun D σ H => tv σ H fun v H1 => td σ H1 fun x H2 => ty σ H2 fun y H3 => ∃ a H4, x = .ref a ∧ DPut H3 a y v H4 ∧ D.nx σ H4
section
variable {X : Cx} {o i e value : Expr} {pos pos' tpos : Pos} {td ty tv : TE}
end
section
variable {X : Cx} {pos : Pos}
end
def IsD (H : Hp) (a : Addr) : Prop := (∃ kvs, Rd H a (.dK kvs)) ∨ ∃ kvs, Rd H a (.dT kvs)
section
variable {X : Cx} {pins : List (Addr × Obj)} {σ : St} {H : Hp} {s : Shared} {a : Addr} {y d : V} {u r : Value} {o : Option V} {A : Around} {E : Value → Shared → Prop}
end
def Bi (td ty tx : TE) : TE := fun σ H Q => td σ H fun x H1 => ∃ a, x = .ref a ∧ IsD H1 a ∧ ty σ H1 fun y H2 => tx σ H2 fun z H3 => ∃ o, Hx H3 a y o ∧ Q (o.getD z) H3
def Bh (td ty : TE) : TE := fun σ H Q => td σ H fun x H1 => ∃ a, x = .ref a ∧ IsD H1 a ∧ ty σ H1 fun y H2 => ∃ kvs k v, H2 a = some (.dK kvs) ∧ y = kV k ∧ Iu kvs k = some v ∧ Q v (upd H2 a (.dK (dropK kvs k)))
section
variable {X : Cx} {o e f : Expr} {apos cpos : Pos} {td ty tx : TE}
end
section
variable {X : Cx} {pins : List (Addr × Obj)} {σ : St} {H : Hp} {s : Shared} {a : Addr} {kvs : List (Key × V)} {A : Around} {E : Value → Shared → Prop}
end
section
variable {X : Cx} {pins : List (Addr × Obj)} {σ : St} {H : Hp} {s : Shared} {a : Addr} {y : V} {u : Value} {A : Around} {E : Value → Shared → Prop}
end
end L2
namespace Att
open PySem PySem.W PySem.Calls PyProof.Rows
theorem ints_of_wellAll {P : Params} {h : Heap} : ∀ (ns : List Int) (vs : List Value), WellAll P h vs (ns.map WData.int) → IntsAre vs ns := by
 intro ns
 induction ns with
 | nil =>
  intro vs w
  rw [List.map_nil] at w
  cases w
  exact .nil
 | cons n ns ih =>
  intro vs w
  rw [List.map_cons] at w
  cases w with
  | cons a b =>
   cases a
   exact .cons _ _ (ih _ b)
theorem script_of {l : OpenLaw} {n : Nat} (hn : l.most = some n) {P : Params} {h : Heap} {args : List WData} {vals : List Value}
  (hpre : l.row.toRowW.claim.pre args = true) (hwl : WellAll P h vals args) :
  ∃ a vs ns, vals = [Value.ref a] ∧ args = [WData.list (ns.map WData.int)] ∧ h.get? a = some { cls := .type "list", data := .seq vs.toArray } ∧ IntsAre vs ns ∧ ns.length ≤ n := by
 have hsh : WShape.hasAll [] args [.list .int] = true := (pre_splitW hpre).1
 have hc : l.pre.holds [] { args := args } = true := (pre_splitW hpre).2
 obtain ⟨d, r, rfl, h1, h2⟩ := hasAllW_cons hsh
 obtain rfl := hasAllW_nil h2
 obtain ⟨xs, rfl, h3⟩ := hasW_list h1
 obtain ⟨ns, rfl⟩ := items_int h3
 have hlen : ns.length ≤ n := by
  unfold OpenLaw.pre at hc
  have h4 : (WTm.not (.lt (.lit (.int (n : Int))) (.len (.arg 0)))).holds [] { args := [.list (ns.map .int)] } = true := by
   have h4 := (holds_andW hc).1
   rw [hn] at h4
   exact h4
  have h5 := condW_of h4 (w_not (w_lt w_lit (w_len_list (w_arg rfl))))
  rw [List.length_map] at h5
  refine Nat.le_of_not_lt fun q => ?_
  have q' : (n : Int) < ((ns.length : Nat) : Int) := by omega
  first
   | (rw [decide_eq_true q'] at h5; exact absurd h5 (by decide))
   | (simp at h5; omega)
 cases hwl with
 | cons w1 w2 =>
  cases w2
  cases w1 with
  | list ho hall => exact ⟨_, _, ns, rfl, rfl, ho, ints_of_wellAll ns _ hall, hlen⟩
theorem post_true (l : OpenLaw) (args : List WData) : l.row.toRowW.claim.post args (.bool true) args = true :=
 postW_of (r := l.row.toRowW) (X := (true == true))
  (show WShape.has [] (.bool true) .bool = true by first | rfl | decide | simp [WShape.has, WShape.arms, WShape.armsAll])
  (show (WTm.eq .res (.lit (.bool true))).value [] { args := args, res := some (.bool true), after := args } = some (.bool (true == true)) from w_eq_bool (w_res rfl) w_lit) rfl
theorem attach_call {l : OpenLaw} {n : Nat} {q : Program} {loose : List Str} {XP : (Str → Option Value) → Heap → Prop} {YP : World → Heap → Prop} {d : DefRec}
  (hn : l.most = some n) (hdf : d.params.defaults = [])
  (call : ∀ (w : World) (s₀ s₁ : Shared) (mg mb : Str → Option Value) (fa : Addr) (o : Obj) (pm cd doc : Value) (a : Addr) (vs : List Value) (ns : List Int),
   Ground q loose [] XP w s₀ mg mb s₁.heap → YP w s₁.heap →
   s₁.heap.get? fa = some o → o.data = .func (docDef d.name d.params d.body d.scope pm cd doc) → s₁.heap.CodeRec cd d.name → mg d.name = some (.ref fa) →
   s₁.heap.get? a = some { cls := .type "list", data := .seq vs.toArray } → IntsAre vs ns → ns.length ≤ n → s₁.gens = #[] →
   codeAny (model l.prog w) callerA (.call (.ref fa) ⟨[.ref a], []⟩) (fun r s' => r = .ok (.ret (.bool true)) ∧ OldK s₁.heap s'.heap ∧ s'.os = s₁.os ∧ AllBare s'.gens) s₁) :
  WalkO q loose XP YP l.row.toRowW d [] (fun f vs => PySem.call f vs) := by
 intro w s₀ s₁ mg mb G Y fa o pm cd doc dV kV ho hd hcd hD hmg hg args vals as hpre hlay hrd hwl hlo
 obtain rfl : dV = .none := Dflts.none hD hdf
 obtain rfl : kV = .none := Dflts.noKw hD
 obtain ⟨a, vs, ns, rfl, rfl, hobj, hints, hlen⟩ := script_of hn hpre hwl
 refine enter_call (codeAny_mono (call w s₀ s₁ mg mb fa o pm cd doc a vs ns G Y ho (fd_plain hd) hcd hmg hobj hints hlen hg) fun r s' hq => ?_)
 obtain ⟨rfl, h2, h3, h4⟩ := hq
 exact ⟨.inl ⟨.bool true, .bool true, [], rfl, fun _ => rfl, .bool true, post_true l _, fun _ => ⟨List.Pairwise.nil, fun _ hm => (nomatch hm)⟩⟩, h2, h3, h4⟩
section
variable {prog : Program} {w : World} {A : Around} {E : Value → Shared → Prop} {s : Shared} {K : Frag}
end
end Att
namespace L2
open PySem PySem.Spec PyProof.Rows
theorem EN : ∀ {vs : List Value} {ns : List Int}, IntsAre vs ns → AU (ns.map V.int) vs
 | _, _, .nil => .nil
 | _, _, .cons n t h => .cons ⟨t, rfl⟩ (EN h)
def JL (H : Hp) : Prop := ∀ b, H b = none ∨ ∃ o xs, H b = some (.frz o (.lst xs))
theorem HJ {P : Program} {w : World} {K : PySem.W.Frag} {mg mb : Str → Option Value} {CX : CXT} {k : Nat} {fa a : Addr} {fd : FuncData} {x : Str} {sp : Sp} {s₁ : Shared} {vs : List Value} {ns : List Int}
  (KX : K.In s₁.heap) (hns : s₁.heap.Ns mainGlobals mg) (hb : s₁.heap.Ns builtinsNs mb) (hbb : ∀ x : Str, x ≠ "__name__" → mb x = bootBuiltins x) (hlim : s₁.heap.NoLimit) (hg : s₁.gens = #[])
  (ha : s₁.heap.get? a = some { cls := .type "list", data := .seq vs.toArray }) (hi : IntsAre vs ns) (hl : ns.length ≤ sizeLine) (hr : BV k callerA)
  (F : ∀ base : Heap, K.In base → base.Ns mainGlobals mg → BL P w K mg base CX k fa fd [x] sp) (hbind : ∀ (s : Shared) (u : Value), BindsTo s fd ⟨[u], []⟩ [(x, u)])
  (hsp : ∀ H : Hp, JL H → SqL K H a (ns.map V.int) → sp [.ref a] H (fun v _ => v = .bl true) fun _ _ _ => False)
  (hCX : ∀ H e s', CX [] H s₁ (fun _ _ _ => False) e s' → False) :
  codeAny (model P w) callerA (.call (.ref fa) ⟨[.ref a], []⟩) (fun r s' => r = .ok (.ret (.bool true)) ∧ OldK s₁.heap s'.heap ∧ s'.os = s₁.os ∧ AllBare s'.gens) s₁ := by
 have rv := EN hi
 have lenV := hi.length
 have core : ∀ H : Hp, JL H → SqL K H a (ns.map V.int) → HOk P w H s₁.heap → (∀ b, H b ≠ none → b = a) → (H a ≠ none → K.lookup a = none) →
   codeAny (model P w) callerA (.call (.ref fa) ⟨[.ref a], []⟩) (fun r s' => r = .ok (.ret (.bool true)) ∧ OldK s₁.heap s'.heap ∧ s'.os = s₁.os ∧ AllBare s'.gens) s₁ := by
  intro H hO hS hok hA hK
  have base_of : ∀ {b : Addr} {o : Obj}, s₁.heap.get? b = some o → H b = none → (En s₁.heap H).get? b = some o := fun e n => Gm e n
  have noA : ∀ {b : Addr} {o : Obj} {es : Array DictEntry} {ep : Nat}, s₁.heap.get? b = some o → o.data = .dict es ep → H b = none := fun {b o es ep} e d => by
   cases q : H b with
   | none => rfl
   | some u =>
    have e' : b = a := hA b (by rw [q]; simp)
    subst e'
    rw [ha] at e; cases e
    have d' : Data.seq vs.toArray _ = Data.dict es ep := d
    cases d'
  have nsK : ∀ {b : Addr} {m : Str → Option Value}, s₁.heap.Ns b m → (En s₁.heap H).Ns b m := fun {b m} ⟨o, es, ep, e, d, r⟩ => ⟨o, es, ep, base_of e (noA e d), d, r⟩
  have hKb : K.In (En s₁.heap H) := fun b o e => base_of (KX b o e) (by
   cases q : H b with
   | none => rfl
   | some u =>
    have e' : b = a := hA b (by rw [q]; simp)
    subst e'
    rw [hK (by rw [q]; simp)] at e; cases e)
  have hM : Mod K mg (En s₁.heap H) := ⟨hKb, nsK hns, ⟨mb, nsK hb, hbb⟩, let ⟨mc, h1, h2⟩ := hlim; ⟨mc, nsK h1, h2⟩⟩
  have e0 : HP P w K mg (En s₁.heap H) callerA [] s₁ H := ⟨rfl, hM, fun b o e => IB e, Nat.le_of_eq (GM _ _), trivial, fun b hb => absurd (show b ∈ ([] : List Addr) from hb) (by simp), hok, .of_eq hg⟩
  refine codeAny_mono ((F _ hKb (nsK hns)).run callerA [] s₁ H ⟨[.ref a], []⟩ [.ref a] [.ref a] _ _ hr e0 (hbind s₁ (.ref a)) (.cons rfl .nil) (hsp H hO hS)) fun r s' h => ?_
  cases r with
  | error e => exact (hCX H e s' h).elim
  | ok fl =>
   cases fl with
   | next => exact False.elim h
   | brk => exact False.elim h
   | cont => exact False.elim h
   | ret u =>
    obtain ⟨v, H', os, bare, un, hok', r', q⟩ := h
    have q' : v = .bl true := q
    subst q'
    obtain rfl : u = Value.bool true := r'
    refine ⟨rfl, OldK.of_keep fun b o e => ?_, os, bare⟩
    cases q : H b with
    | none => exact un.keep b o e q (by intro z; exact absurd (show b ∈ ([] : List Addr) from z) (by simp)) (by simp)
    | some u =>
     rcases hO b with z | ⟨ob, xs, z⟩
     ·rw [q] at z; cases z
     ·have z2 := un.frzs b ob _ z
      obtain ⟨e1, _⟩ := hok b _ z
      obtain ⟨e2, _⟩ := hok' b _ z2
      rw [e] at e1; cases e1
      exact e2
 cases hk : K.lookup a with
 | some o =>
  have e := KX a o hk
  rw [ha] at e
  cases e
  refine core (fun _ => none) (fun _ => .inl rfl) (.inr ⟨_, vs.toArray, _, hk, rfl, rfl, rfl, by rw [List.size_toArray, lenV]; exact hl, by simpa using rv⟩) (fun b u z => by have z' : (none : Option HO) = some u := z; cases z') (fun b z => absurd rfl z) fun z => absurd rfl z
 | none =>
  refine core (fun b => if b = a then some (.frz { cls := .type "list", data := .seq vs.toArray } (.lst (ns.map V.int))) else none) (fun b => ?_) (.inl (.inr ⟨{ cls := .type "list", data := .seq vs.toArray }, if_pos rfl⟩)) (fun b u z => ?_) (fun b z => ?_) fun _ => hk
  ·by_cases hb : b = a
   ·exact .inr ⟨_, _, if_pos hb⟩
   ·exact .inl (if_neg hb)
  ·by_cases hb : b = a
   ·have z' := (if_pos hb).symm.trans z
    cases z'
    subst hb
    exact ⟨ha, by rw [List.length_map]; exact hl, vs, _, rv, ha⟩
   ·have z' := (if_neg hb).symm.trans z
    cases z'
  ·by_cases hb : b = a
   ·exact hb
   ·exact absurd (if_neg hb) z
end L2
namespace L2
open PySem PySem.Spec PyProof.Rows
end L2
namespace L2
open PySem PySem.Spec PyProof.Rows
def BQ (s : Stmt) : Arguments := match s with
 | .FunctionDef _ a _ _ _ _ _ _ _ _ => a
 | _ => { posonlyargs := [], args := [], vararg := none, kwonlyargs := [], kw_defaults := [], kwarg := none, defaults := [] }
def Ax (s : Stmt) : List Stmt := match s with
 | .FunctionDef _ _ b _ _ _ _ _ _ _ => b
 | _ => []
def AG (s : Stmt) : Scope := match s with
 | .FunctionDef _ _ _ _ _ _ sc _ _ _ => sc
 | _ => { kind := .function, names := [], isGenerator := false, isCoroutine := false }
abbrev CX0 : CXT := fun _ _ _ _ _ _ => False
abbrev E0 : XK := fun _ _ _ => False
theorem A9 {X : Cx} : Eb CX0 X E0 := fun _ _ _ _ _ _ _ h => h.elim
structure Fun (K : PySem.W.Frag) (x qual : Str) (st : Stmt) (f : Addr) (fd : FuncData) : Prop where
 ex : ∃ (oc : Value) (od : Option Addr) (kV doc pm : Value) (an : Option Addr) (cdv ct : Value) (osl : Array (Option Value)),
  fd = PySem.W.fnOf x qual (BQ st) (Ax st) (AG st) .none kV doc pm an cdv ct ∧ K.lookup f = some ⟨oc, od, .func fd, osl⟩ ∧ PySem.W.codeIn K cdv qual = true
 kp : PySem.W.keepIn K (.ref f) = true
section
variable {P : Program} {w : World} {K : PySem.W.Frag} {mg : Str → Option Value} {base : Heap}
theorem Fun.ok {x qual : Str} {st : Stmt} {f : Addr} {fd : FuncData} {N ps : List Str} {k : Nat} {sp : Sp} (F : Fun K x qual st f fd) (S : AY N ps (AG st)) (len : ∀ vs H Q E, sp vs H Q E → vs.length = ps.length)
  (hbody : ∀ (cdv : Value) (A : Around) (outer : List Env) (s : Shared) (H : Hp) (vs : List V) (Q : VK) (E : XK), BV k (A.deeper (envOfC qual (AG st) s.heap.objs.size f cdv)) → sp vs H Q E →
   ∃ t, PSs (CW CX0 P w K mg base N qual (AG st) f cdv A outer s H E).nox (Ax st) t ∧ t { nx := fun _ H' => Q .non H', rt := Q } (start N vs) H) : BL P w K mg base CX0 (k + 1) f fd ps sp := by
 obtain ⟨oc, od, kV, doc, pm, an, cdv, ct, osl, rfl, lk, hcd⟩ := F.ex
 refine IE lk hcd S len fun A outer s H vs Q E hr hsp => ?_
 obtain ⟨t, h, q⟩ := hbody cdv A outer s H vs Q E hr hsp
 exact ⟨t, h.nox, q⟩
theorem Fun.binds {x qual : Str} {st : Stmt} {f : Addr} {fd : FuncData} {ps : List Str} (F : Fun K x qual st f fd)
  (h : ∀ (kV doc pm : Value) (an : Option Addr) (cdv ct : Value) (us : List Value), us.length = ps.length → bindArgs (PySem.W.fnOf x qual (BQ st) (Ax st) (AG st) .none kV doc pm an cdv ct) ⟨us, []⟩ = pure (ps.zip us)) : Binds K fd ps [] := by
 obtain ⟨oc, od, kV, doc, pm, an, cdv, ct, osl, rfl, lk, hcd⟩ := F.ex
 exact .all (h kV doc pm an cdv ct)
theorem Eu {x qual : Str} {st : Stmt} {f : Addr} {oc : Value} {od an : Option Addr} {osl : Array (Option Value)} {kV doc pm cdv ct : Value} (l : K.lookup f = some ⟨oc, od, .func (PySem.W.fnOf x qual (BQ st) (Ax st) (AG st) .none kV doc pm an cdv ct), osl⟩)
  (c : PySem.W.codeIn K cdv qual = true) (k : PySem.W.keepIn K (.ref f) = true) : Fun K x qual st f (PySem.W.fnOf x qual (BQ st) (Ax st) (AG st) .none kV doc pm an cdv ct) := ⟨⟨oc, od, kV, doc, pm, an, cdv, ct, osl, rfl, l, c⟩, k⟩
end
theorem Bc {A : Around} {k : Nat} (hr : BV k A) : A.units + 1 < cLine := Nat.lt_of_le_of_lt (Nat.add_le_add_left (by decide : 1 ≤ 64) _) hr.units
section
variable {X : Cx}
theorem pv (i : Nat) {x : Str} {pos : Pos} (hN : X.N[i]? = some x := by rfl) (hv : Vis X.env.scope x := by first | exact Or.inl rfl | exact Or.inr (Or.inl rfl) | exact Or.inr (Or.inr rfl)) (hd : (x == ("__debug__" : Str)) = false := by decide)
  (hcd : (x == ("__classdict__" : Str)) = false := by decide) : PE X (.Name x pos) (Dt i) := Is hN hv hd hcd
end
def AE (H H' : Hp) : Prop := ∀ b o, H b = some o → H' b = some o
theorem AE.refl (H : Hp) : AE H H := fun _ _ h => h
theorem AE.trans {H H1 H2 : Hp} (a : AE H H1) (b : AE H1 H2) : AE H H2 := fun c o h => b c o (a c o h)
theorem AE.free {H H' : Hp} (e : AE H H') {l : Addr} (h : H' l = Option.none) : H l = Option.none := by
 cases q : H l with
 | none => rfl
 | some o =>
  rw [e l o q] at h
  cases h
theorem AE.seq {K : PySem.W.Frag} {H H' : Hp} {a : Addr} {xs : List V} (e : AE H H') (h : SqL K H a xs) : SqL K H' a xs := by
 rcases h with (h | ⟨o, h⟩) | h
 ·exact .inl (.inl (e _ _ h))
 ·exact .inl (.inr ⟨o, e _ _ h⟩)
 ·exact .inr h
end L2
namespace L2
open PySem PySem.Spec PyProof.Rows
section
variable {X : Cx}
end
section
variable {κ : Type} [DecidableEq κ]
end
end L2
set_option Elab.async false
set_option linter.all false
set_option maxRecDepth 100000
namespace L2
open PySem PySem.Spec PyProof.Rows
theorem FT : bootBuiltins "abs" = some (.builtin "abs") := by decide +kernel
theorem By : bootBuiltins "len" = some (.builtin "len") := by decide +kernel
theorem A0 : bootBuiltins "isinstance" = some (.builtin "isinstance") := by decide +kernel
theorem HC : bootBuiltins "int" = some (.type "int") := by decide +kernel
theorem IA : bootBuiltins "bool" = some (.type "bool") := by decide +kernel
theorem Gj : bootBuiltins "tuple" = some (.type "tuple") := by decide +kernel
theorem A5 : bootBuiltins "str" = some (.type "str") := by decide +kernel
def Sm (i : Int) : Prop := i.natAbs < 2 ^ 4000
theorem Sm.of {i : Int} {n : Nat} (h : i.natAbs ≤ n) (hn : n < 2 ^ 4000) : Sm i := Nat.lt_of_le_of_lt h hn
theorem Sm.log {i : Int} (h : Sm i) : i.natAbs.log2 < 9000 := by
 have hn : i.natAbs < 2 ^ 4000 := h
 rcases Nat.eq_zero_or_pos i.natAbs with h0 | hp
 ·rw [h0]; decide
 ·exact Nat.lt_trans ((Nat.log2_lt (Nat.ne_of_gt hp)).mpr hn) (by decide)
section
variable {X : Cx}
theorem FG : OpR X (binaryOp .FloorDiv) (rI (fun _ j => j ≠ 0 ∧ Sm j) fun i j => .int (i.fdiv j)) := opI fun _ _ _ _ _ _ _ hc q => floordiv_int hc.1 q (.inl (PyProof.noPylong_of_log2 hc.2.log))
theorem De : OpR X (binaryOp .FloorDiv) (rI (fun _ j => 0 < j ∧ Sm j) fun i j => .int (i / j)) := opI fun i j _ _ _ _ _ hc q => by
 have h1 : (0 : Int) < j := hc.1
 exact floordiv_int (by omega) (by rw [Int.fdiv_eq_ediv_of_nonneg i (by omega)]; exact q) (.inl (PyProof.noPylong_of_log2 hc.2.log))
theorem BO : C3 X (.builtin "isinstance") (fun xs H Q => ∃ x n t b, xs = [x, .ty n] ∧ Bq X.K H x t ∧ PySem.W.kitOne X.K t (.type n) = some b ∧ Q (.bl b) H) := by
 intro pins s σ H xs us Q I r h
 obtain ⟨x, n, t, b, rfl, ty, e, q⟩ := h
 obtain ⟨u, w', rfl, r1, r2⟩ := vals2 r
 cases (show w' = Value.type n from r2)
 exact GJ I r1 ty e fun tk => ⟨.bl b, H, I.tok tk, rfl, q⟩
end
structure D (K : PySem.W.Frag) (mg : Str → Option Value) (x : Str) (st : Stmt) (ps : List Str) (f : Addr) (fd : FuncData) : Prop where
 F : Fun K x x st f fd
 m : mg x = some (.ref f)
 b : Binds K fd ps []
end L2
namespace L2
open PySem PySem.Spec PyProof.Rows
section
variable {X : Cx} {st : Stmt} {rest : List Stmt} {t u : TS}
theorem HM {t u : TS} {D : DF} {σ : St} {H : Hp} (h : ∀ M : St → Hp → Prop, (∀ σ' H', u D σ' H' → M σ' H') → t { D with nx := M } σ H) : FI t u D σ H := h _ fun _ _ z => z
def tCut (t u : TS) : TS := fun D σ H => ∃ M : St → Hp → Prop, t { D with nx := M } σ H ∧ ∀ σ' H', M σ' H' → u D σ' H'
theorem Fo (h1 : PS X st t) (h2 : PSs X rest u) : PSs X (st :: rest) (tCut t u) := by
 intro pins s σ H D I h
 obtain ⟨M, h, hM⟩ := h
 refine wpAny_execs_cons (thn (h1 pins s σ H _ I h) fun f s1 q => ?_)
 cases f with
 | next =>
  obtain ⟨σ', H', I', q⟩ := q
  exact h2 pins s1 σ' H' D I' (hM σ' H' q)
 | ret v => exact q
 | brk => exact q
 | cont => exact q
end
end L2
namespace L2
open PySem PySem.Spec PyProof.Rows
theorem cxK {CX : CXT} {P : Program} {w : World} {K : PySem.W.Frag} {mg : Str → Option Value} {base : Heap} {N : List Str} {qual : Str} {scope : Scope} {f : Addr} {cd : Value} {A : Around} {outer : List Env} {s : Shared} {H : Hp} {E : XK} :
 (CW CX P w K mg base N qual scope f cd A outer s H E).K = K := rfl
end L2
namespace L2
theorem DL : Int.natAbs 10 = 10 := rfl
theorem EF : Int.natAbs 2 = 2 := rfl
end L2
namespace L2
theorem At {H : Hp} {p : PySem.Addr} {o : HO} (hp : H p = none) : AE H (upd H p o) := fun b u e => by
 rw [Ac (Aq e hp)]; exact e
theorem AE.tup {K : PySem.W.Frag} {H H' : Hp} {a : PySem.Addr} {xs : List V} (e : AE H H') (h : SqT K H a xs) : SqT K H' a xs := by
 rcases h with (h | ⟨o, h⟩) | h
 ·exact .inl (.inl (e _ _ h))
 ·exact .inl (.inr ⟨o, e _ _ h⟩)
 ·exact .inr h
end L2
namespace L2
open PySem PySem.Spec PyProof.Rows
section
variable {X : Cx} {es : List Expr} {t : TA} {pos : Pos}
def CH (t : TA) : TE := fun σ H Q => t σ H fun xs H1 => xs.length ≤ sizeLine ∧ ∀ p H', H1 p = none → AE H1 H' → H' p = some (.tup xs) → Q (.ref p) H'
def CQ (t : TA) : TE := fun σ H Q => t σ H fun xs H1 => xs.length ≤ sizeLine ∧ ∀ p H', H1 p = none → AE H1 H' → H' p = some (.lst xs) → Q (.ref p) H'
theorem B5 {x1} (h : PA X es t) : PE X (.Tuple es x1 pos) (CH t) := by
 intro pins s σ H Q I hq
 refine wpAny_Tuple_spliced (thn (h pos pins s σ H _ I hq) fun us s1 ⟨xs, H1, I1, r, z, q⟩ => ⟨by rw [← r.length]; exact z, ?_⟩)
 have hf : H1 s1.heap.objs.size = none := I1.hok.fresh (Nat.le_refl _)
 refine ⟨.ref s1.heap.objs.size, upd H1 s1.heap.objs.size (.tup xs), I1.laid (t' := s1.toks) (fun b u e => Heap.get?_push_of_some _ e) (Nat.le_refl _) ?_, rfl, q _ _ hf (At hf) AW⟩
 exact ⟨z, us, r, ⟨_, Heap.get?_push_size _ rfl, rfl, _, rfl⟩⟩
theorem B3 (h : PA X es t) : PE X (.List es pos) (CQ t) := by
 intro pins s σ H Q I hq
 refine wpAny_List_spliced (thn (h pos pins s σ H _ I hq) fun us s1 ⟨xs, H1, I1, r, z, q⟩ => ⟨by rw [← r.length]; exact z, ?_⟩)
 have hf : H1 s1.heap.objs.size = none := I1.hok.fresh (Nat.le_refl _)
 refine ⟨.ref s1.heap.objs.size, upd H1 s1.heap.objs.size (.lst xs), I1.laid (t' := s1.toks) (fun b u e => Heap.get?_push_of_some _ e) (Nat.le_refl _) ?_, rfl, q _ _ hf (At hf) AW⟩
 exact ⟨z, us, 0, r, Heap.get?_push_size _ rfl⟩
end
end L2
namespace L2
theorem AE.get {H H' : Hp} (s : AE H H') {b : PySem.Addr} {o : HO} (h : H b = some o) : H' b = some o := s b o h
end L2
namespace L2
theorem C5 {α : Sort _} {p q : α → Prop} (w : α) (h1 : p w) (h2 : q w) : ∃ x, p x ∧ q x := ⟨w, h1, h2⟩
theorem exOrL {α : Sort _} {p p' q : α → Prop} (w : α) (h1 : p w) (h2 : q w) : ∃ x, (p x ∨ p' x) ∧ q x := ⟨w, .inl h1, h2⟩
theorem exOrR {α : Sort _} {p p' q : α → Prop} (w : α) (h1 : p' w) (h2 : q w) : ∃ x, (p x ∨ p' x) ∧ q x := ⟨w, .inr h1, h2⟩
end L2
namespace L2
open PySem PySem.Spec PyProof.Rows
section
variable {X : Cx}
theorem OpR.weak {f : Value → Value → Sem Value} {r r' : R2} (h : OpR X f r) (m : ∀ x y H Q, r' x y H Q → r x y H Q) : OpR X f r' :=
 fun pins s σ H x y v u Q I rx ry q => h pins s σ H x y v u Q I rx ry (m x y H Q q)
def CJ : R2 := fun x y H Q => ∃ l b, x = .ref l ∧ y = .ref b ∧ ∃ xs, H l = some (.lst xs) ∧ ∃ zs, H b = some (.lst zs) ∧ xs.length + zs.length ≤ sizeLine ∧ ∀ p H', H p = none → AE H H' → H' p = some (.lst (xs ++ zs)) → Q (.ref p) H'
theorem Fz : OpR X (binaryOp .Add) CJ := Ia.weak fun _ _ _ _ ⟨l, b, e1, e2, xs, h1, zs, h2, h3, q⟩ => ⟨l, b, xs, zs, e1, e2, h1, h2, h3, fun p hp => q p _ hp (At hp) AW⟩
def BB (K : PySem.W.Frag) : List V → Hp → VK → Prop := fun xs H Q => ∃ p, xs = [.ref p] ∧ ∃ ys, SqL K H p ys ∧ ∀ l H', H l = none → AE H H' → H' l = some (.tup ys) → Q (.ref l) H'
def BH (K : PySem.W.Frag) : List V → Hp → VK → Prop := fun xs H Q => ∃ p, xs = [.ref p] ∧ ∃ ys, (SqL K H p ys ∨ SqT K H p ys) ∧ ∀ l H', H l = none → AE H H' → H' l = some (.lst ys) → Q (.ref l) H'
end
end L2
namespace L2
theorem JD {c A B : Prop} [Decidable c] (hc : ¬ c) (h : B) : if c then A else B := by rw [if_neg hc]; exact h
theorem IR {c A B : Prop} [Decidable c] (hc : c) (h : A) : if c then A else B := by rw [if_pos hc]; exact h
theorem JC {H H' : Hp} (h : AE H H') : True := trivial
end L2
namespace L2
open PySem PySem.Spec PyProof.Rows
section
variable {X : Cx}
end
end L2
set_option Elab.async false
set_option linter.all false
set_option maxRecDepth 100000
set_option maxHeartbeats 4000000
namespace L2
open PySem PySem.Spec PyProof.Rows
section
variable {prog : Program} {w : World} {A : Around} {R : Result → Shared → Prop} {s : Shared}
theorem FP {elt target iter : Expr} {ifs : List Expr} {scope : Scope} {pos : Pos} {it acc : Value} {env : Env} (I : Nat → Shared → Prop) {N : Value → Shared → Prop} (hN : N = notedBy (model prog w) A env fun e s' => R (.error e) s')
  (turn : ∀ n s, I n s → wpAny (model prog w) A (pyNext it) (fun r s₁ => match r with
   | none => R (.ok .next) s₁
   | some v => wpAny (model prog w) A (letOwnedTupleGo target it v) (fun _ s₁' => wpAny (model prog w) A (assign target env v) (fun _ s₂ =>
     wpAny (model prog w) A (forIn ifs true fun c r => if r = true then do let ok ← isTrue c env (eval c env); pure (ForInStep.yield ok) else pure (ForInStep.yield r)) (fun ok s₃ =>
      if ok = true then wpAny (model prog w) A (eval elt env) (fun x s₄ => wpAny (model prog w) A (call (.builtin "list.append") [acc, x]) (fun _ s₅ => ∃ m, m < n ∧ I m s₅) N s₄) N s₃
      else ∃ m, m < n ∧ I m s₃) N s₂) N s₁') N s₁) N s)
  (n : Nat) (h : I n s) : codeAny (model prog w) A (.compLoop (.ListComp elt [⟨target, iter, ifs, 0⟩] scope pos) 0 it acc env) R s := by
 subst hN
 refine codeAny_loop rfl I (fun n s hI => ?_) n h
 show wpAny _ A ((compTurn (.ListComp elt [⟨target, iter, ifs, 0⟩] scope pos) 0 it acc env).onRaise (fun x => do noteFrame x env; theTreesLotGoes x)) _ _ s
 refine wpAny_noted ?_
 rw [compTurn_list]
 refine wpAny_bind (wpAny_standAt (wpAny_bind (wpAny_mono (turn n s hI) (fun r s₁ h₁ => ?_) fun _ _ h' => h')))
 cases r with
 | none => exact wpAny_pure h₁
 | some v =>
  refine wpAny_bind (wpAny_mono h₁ (fun _ s₁' h₁' => ?_) fun _ _ h' => h')
  refine wpAny_bind (wpAny_mono h₁' (fun _ s₂ h₂ => wpAny_bind (wpAny_mono h₂ (fun ok s₃ h₃ => ?_) fun _ _ h' => h')) fun _ _ h' => h')
  cases ok with
  | false => exact wpAny_pure ⟨rfl, h₃⟩
  | true =>
   exact wpAny_bind (wpAny_bind (wpAny_mono h₃ (fun x s₄ h₄ => wpAny_bind (wpAny_mono h₄ (fun _ s₅ h₅ => wpAny_pure (wpAny_pure ⟨rfl, h₅⟩)) fun _ _ h' => h')) fun _ _ h' => h'))
end
def Aj (X : Cx) (sc : Scope) (cl : List (Str × Addr)) (N : List Str) (C : Addr) (s : Shared) (H : Hp) (ex : List Addr) : Cx :=
 { X with N := N, s₀ := s, H₀ := H, env := compEnvC sc cl C X.env, outer := X.stack, stack := X.stack, ex := ex, fn := fun _ => false, pn := [], xe := fun _ _ => False }
def Ae (X : Cx) (caps : List Str) : List (Str × Addr) := caps.map fun n => (n, (X.env.cells.lookup n).getD 0)
def BX (σ : St) (ix : List Nat) : St := ix.map fun i => (σ[i]?).join
structure Ap (X : Cx) (sc : Scope) (x : Str) (caps : List Str) (ix : List Nat) : Prop where
 kind : sc.kind = .function
 nocell : ∀ y ∈ sc.names, y.2 ≠ .cell
 names : ∀ y ∈ sc.names, y.2 = .local → sc.names.lookup y.1 = some .local
 free : ∀ y ∈ sc.names, y.2 = .free → y.1 ∈ caps
 hx : sc.names.lookup x = some .local
 nd : (x :: caps).Nodup
 clos : closureFor sc X.env = pure (Ae X caps)
 cap : caps.map X.env.kindOf = caps.map fun _ => some NameKind.cell
 rl : (caps.map fun n => (relabel sc X.env).names.lookup n) = caps.map fun _ => some NameKind.cell
 slots : (ix.map fun i => X.N[i]?) = caps.map some
theorem Ea {α β : Type} {f g : α → β} {l : List α} (h : l.map f = l.map g) {a : α} (ha : a ∈ l) : f a = g a := by
 induction l with
 | nil => exact absurd ha (by simp)
 | cons b r ih =>
  rw [List.map_cons, List.map_cons, List.cons.injEq] at h
  rcases List.mem_cons.mp ha with rfl | ha
  ·exact h.1
  ·exact ih h.2 ha
theorem C0 {X : Cx} : ∀ {caps : List Str} {n : Str} {c : Addr}, (Ae X caps).lookup n = some c → n ∈ caps ∧ c = (X.env.cells.lookup n).getD 0
 | [], _, _, h => by simp [Ae] at h
 | a :: r, n, c, h => by
  have h : List.lookup n ((a, (X.env.cells.lookup a).getD 0) :: Ae X r) = some c := h
  rw [List.lookup_cons] at h
  cases e : n == a with
  | true =>
   rw [e] at h
   have e' : n = a := by simpa using e
   subst e'
   exact ⟨List.mem_cons_self, (Option.some.inj h).symm⟩
  | false =>
   rw [e] at h
   obtain ⟨h1, h2⟩ := C0 h
   exact ⟨List.mem_cons_of_mem _ h1, h2⟩
theorem DK {X : Cx} : ∀ {caps : List Str} {n : Str}, n ∈ caps → ∃ c, (Ae X caps).lookup n = some c
 | [], _, h => absurd h (by simp)
 | a :: r, n, h => by
  show ∃ c, List.lookup n ((a, (X.env.cells.lookup a).getD 0) :: Ae X r) = some c
  rw [List.lookup_cons]
  cases e : n == a with
  | true => exact ⟨_, rfl⟩
  | false =>
   have ne : n ≠ a := by simpa using e
   exact DK ((List.mem_cons.mp h).resolve_left ne)
section
variable {X : Cx} {pins : List (Addr × Obj)} {σ : St} {H : Hp} {s : Shared} {sc : Scope} {x : Str} {caps : List Str} {ix : List Nat}
theorem Ap.cell {n : Str} {c : Addr} (S : Ap X sc x caps ix) (ok : X.Ok) (h : (Ae X caps).lookup n = some c) : n ∈ caps ∧ X.env.cells.lookup n = some c := by
 obtain ⟨h1, h2⟩ := C0 h
 obtain ⟨c', e⟩ := ok.has n (.inl (Ea S.cap h1))
 refine ⟨h1, ?_⟩
 rw [h2, e]; rfl
theorem Ap.isCap (S : Ap X sc x caps ix) {y : Str} (h : (relabel sc X.env).names.lookup y = some .cell ∨ (relabel sc X.env).names.lookup y = some .free) : y ∈ caps := by
 have key : ∀ k, (relabel sc X.env).names.lookup y = some k → k = .cell ∨ k = .free → y ∈ caps := fun k hk hk2 => by
  have hm := PySem.mem_of_lookup hk
  obtain ⟨⟨n, k'⟩, hn, e⟩ := List.mem_map.mp (show (y, k) ∈ sc.names.map _ from hm)
  dsimp only at e
  split at e
  ·rename_i hc
   have hk' : k' = .free := by
    simp only [Bool.and_eq_true, beq_iff_eq] at hc
    exact hc.1.1
   injection e with e1 e2
   subst e1
   exact S.free _ hn hk'
  ·injection e with e1 e2
   subst e1 e2
   rcases hk2 with rfl | rfl
   ·exact absurd rfl (S.nocell _ hn)
   ·exact S.free _ hn rfl
 rcases h with h | h
 ·exact key _ h (.inl rfl)
 ·exact key _ h (.inr rfl)
theorem Ap.ok (S : Ap X sc x caps ix) (I : Inv X pins σ H s) {fp : List Addr} {C : Addr} (hC : s.heap.objs.size ≤ C) (hf : ∀ b ∈ fp, DV X pins H b) (hb : ∀ b ∈ fp, b < s.heap.objs.size) :
  (Aj X sc (Ae X caps) (x :: caps) C s H fp).Ok where
 mod := I.ok.mod
 kind := S.kind
 glob := I.ok.glob
 blt := I.ok.blt
 above := hC
 inj := fun y z c h1 h2 => I.ok.inj y z c (S.cell I.ok h1).2 (S.cell I.ok h2).2
 has := fun y hy => DK (S.isCap hy)
 cab := fun _ _ h => absurd h (by intro z; cases z)
 hd := I.ok.hd
 frames := I.ok.frames
 stk := .inl rfl
 exf := fun b hbf => ⟨Nat.ne_of_lt (Nat.lt_of_lt_of_le (hb b hbf) hC), fun y c h => (hf b hbf).2.2.2.2.1 y c (S.cell I.ok h).2⟩
 bs := I.bs
 bsz := Nat.le_trans I.ok.bsz I.sz
 noex := fun b o e hbf => by
  rcases (hf b hbf).2.2.2.1 with z | z
  ·exact I.ok.noex b o e z
  ·exact absurd (Nat.lt_of_lt_of_le (Heap.lt_size (I.ok.bs b o e).1) z) (Nat.lt_irrefl _)
 exfs := fun b hbf hm => by
  rcases List.mem_cons.mp (I.stkSub b hm) with z | z
  ·exact (hf b hbf).2.1 z
  ·exact (hf b hbf).2.2.1 z
 funs := I.stack
 frf := I.stkFree
theorem Ge (S : Ap X sc x caps ix) : (BX σ ix).length = caps.length := by
 have := congrArg List.length S.slots
 simpa [BX] using this
theorem F5 : ∀ {ix : List Nat} {caps : List Str} {N : List Str} {k : Nat} {n : Str}, (ix.map fun i => N[i]?) = caps.map some → caps[k]? = some n → ∃ i, ix[k]? = some i ∧ N[i]? = some n
 | [], [], _, _, _, _, h => by simp at h
 | [], _ :: _, _, _, _, h, _ => by simp at h
 | _ :: _, [], _, _, _, h, _ => by simp at h
 | i :: ix, a :: caps, N, 0, n, h, e => by
  rw [List.map_cons, List.map_cons, List.cons.injEq] at h
  simp at e; subst e
  exact ⟨i, rfl, h.1⟩
 | i :: ix, a :: caps, N, k + 1, n, h, e => by
  rw [List.map_cons, List.map_cons, List.cons.injEq] at h
  obtain ⟨j, h1, h2⟩ := F5 (k := k) h.2 (by simpa using e)
  exact ⟨j, by simpa using h1, h2⟩
theorem Ap.start (S : Ap X sc x caps ix) (I : Inv X pins σ H s) {fp : List Addr} {C D : Addr} {h' : Heap} {m : Str → Option Value} {tk : Nat} (hf : ∀ b ∈ fp, DV X pins H b) (hb : ∀ b ∈ fp, b < s.heap.objs.size)
  (hD : s.heap.objs.size ≤ D) (hC : s.heap.objs.size ≤ C) (hDC : D ≠ C) (k : ∀ b o, s.heap.get? b = some o → h'.get? b = some o) (hd : h'.get? D = some { cls := .type "list", data := .seq #[] 0 }) (hn : h'.Ns C m) :
  Inv (Aj X sc (Ae X caps) (x :: caps) C s H fp) [] (none :: BX σ ix) (upd H D (.lst [])) { s with heap := h', toks := tk } where
 ok := S.ok I hC hf hb
 os := rfl
 bare := I.bare
 base := Un.laid k hD (I.hok.fresh hD)
 loc := by
  refine ⟨m, hn, fun i y v h1 h2 _ => ?_⟩
  cases i with
  | zero => simp at h2
  | succ i =>
   have h1 : caps[i]? = some y := by simpa [Aj] using h1
   have h2 : (BX σ ix)[i]? = some (some v) := by simpa using h2
   obtain ⟨j, e1, e2⟩ := F5 S.slots h1
   have h3 : σ[j]? = some (some v) := by
    unfold BX at h2
    rw [List.getElem?_map, e1] at h2
    have h2 : (σ[j]?).join = some v := by simpa using h2
    cases q : σ[j]? with
    | none => rw [q] at h2; cases h2
    | some o => rw [q] at h2; cases o with
     | none => cases h2
     | some u => cases h2; rfl
   have hy : y ∈ caps := List.mem_of_getElem? h1
   obtain ⟨m0, hn0, hl0⟩ := I.loc
   obtain ⟨u, r, l⟩ := hl0 j y v e2 h3 (.inr (.inl (Ea S.cap hy)))
   refine ⟨u, r, .inr ⟨.inl (Ea S.rl hy), ?_⟩⟩
   rcases l with ⟨z, _⟩ | ⟨_, c, hc, hcell⟩
   ·have z2 : X.env.kindOf y = some .cell := Ea S.cap hy
    rw [z] at z2; cases z2
   ·obtain ⟨c', hc'⟩ := DK (X := X) hy
    have := (S.cell I.ok hc').2
    rw [hc] at this; cases this
    obtain ⟨o, ho, hdt⟩ := hcell
    exact ⟨c, hc', o, k _ _ ho, hdt⟩
 cell := fun y c h => by
  obtain ⟨v, o, ho, hdt⟩ := I.cell y c (S.cell I.ok h).2
  exact ⟨v, o, k _ _ ho, hdt⟩
 free := by
  show upd H D (.lst []) C = none
  rw [Ac (Ne.symm hDC)]; exact I.hok.fresh hC
 freeC := fun y c h => by
  have h2 := (S.cell I.ok h).2
  obtain ⟨v, o, ho, _⟩ := I.cell y c h2
  rw [Ac (Nat.ne_of_lt (Nat.lt_of_lt_of_le (Heap.lt_size ho) hD))]
  exact I.freeC y c h2
 pin := fun p hp => absurd (show p ∈ ([] : List (Addr × Obj)) from hp) (by simp)
 hok := I.hok.laid k hD ⟨Nat.zero_le _, [], 0, .nil, hd⟩
 len := by
  show (none :: BX σ ix).length = (x :: caps).length
  rw [List.length_cons, List.length_cons, Ge S]
theorem Ap.back (S : Ap X sc x caps ix) (I : Inv X pins σ H s) {fp : List Addr} {C : Addr} {ps : List (Addr × Obj)} {σ' : St} {H' : Hp} {s' : Shared} {h'' : Heap} (hf : ∀ b ∈ fp, DV X pins H b) (hC : s.heap.objs.size ≤ C)
  (I' : Inv (Aj X sc (Ae X caps) (x :: caps) C s H fp) ps σ' H' s') (hs : Heap.SameBut C s'.heap h'') : Inv X pins σ H' { s' with heap := h'' } := by
 have J : Inv X pins σ H' s' := I.call' (ch := fp) I'.os I'.base I'.hok I'.bare fun b hb => ⟨(hf b hb).2.2.2.1, (hf b hb).2.1, (hf b hb).2.2.2.2.1, (hf b hb).2.2.2.2.2⟩
 refine J.turned (t' := s'.toks) (it := C) (fun b o hb e => (hs.2 b hb).trans e) I'.free ?_ (.inr (Nat.le_trans I.sz hC)) (fun y c h z => ?_) fun p hp z => ?_
 ·exact Nat.ne_of_gt (Nat.lt_of_lt_of_le I.lt hC)
 ·obtain ⟨v, o, ho, _⟩ := I.cell y c h
  exact absurd (Nat.lt_of_lt_of_le (Heap.lt_size ho) (z ▸ hC)) (Nat.lt_irrefl _)
 ·obtain ⟨e, _⟩ := I.pin p hp
  exact absurd (Nat.lt_of_lt_of_le (Heap.lt_size e) (z ▸ hC)) (Nat.lt_irrefl _)
end
def PTs (X : Cx) (ifs : List Expr) (tc : TT) : Prop :=
 ∀ (pins : List (Addr × Obj)) (s : Shared) (σ : St) (H : Hp) (Q : Bool → Hp → Prop), Inv X pins σ H s → tc σ H Q →
  wpAny (model X.prog X.w) X.A (forIn ifs true fun c r => if r = true then do let ok ← isTrue c X.env (eval c X.env); pure (ForInStep.yield ok) else pure (ForInStep.yield r)) (TP X pins σ Q) X.xe s
def Bp : TT := fun _ H Q => Q true H
theorem F6 {X : Cx} : PTs X [] Bp := fun _ _ _ H _ I h => wpAny_tests_nil ⟨H, I, h⟩
def Db (te : TE) (tc : TT) (caps : St) (J : It) (D : Addr) (H1 : Hp) (Q : Hp → Prop) : Prop :=
 ∃ W : Nat → Nat → List V → Hp → Prop, (∃ m, W 0 m [] (upd H1 D (.lst []))) ∧ ∀ i m ys H, W i m ys H →
  (J.stop i H ∧ Q H) ∨ (J.go i H ∧ ∀ v H', J.yld i H v H' → tc (some v :: caps) H' fun b H2 =>
   if b = true then te (some v :: caps) H2 fun y H3 => H3 D = some (.lst ys) ∧ ys.length < sizeLine ∧ ∃ m', m' < m ∧ W (i + 1) m' (ys ++ [y]) (upd H3 D (.lst (ys ++ [y])))
   else ∃ m', m' < m ∧ W (i + 1) m' ys H2)
def CC (wi : TI) (te : TE) (tc : TT) (ix : List Nat) : TE := fun σ H Q => wi σ H fun J H1 => ∀ D, H1 D = none → Db te tc (BX σ ix) J D H1 fun H' => Q (.ref D) H'
theorem A2 {M : Model} {A : Around} {α : Type} {t : Sem α} {Q : α → Shared → Prop} {E : Value → Shared → Prop} {s : Shared} (h : wpAny M A t Q (fun _ _ => False) s) : wpAny M A t Q E s := wpAny_mono h (fun _ _ q => q) fun _ _ z => z.elim
section
variable {X : Cx} {pins : List (Addr × Obj)} {σ : St} {H : Hp} {s : Shared} {sc : Scope} {x : Str} {caps : List Str} {ix : List Nat}
theorem Fa {elt iter : Expr} {px pos : Pos} {ifs : List Expr} {te : TE} {tc : TT} {J : It} {fp : List Addr} {it : Addr} {tn : Nat → Heap → Prop} {QH : Addr → Hp → Prop} {RR : Value → Addr → Result → Shared → Prop} {E : Value → Shared → Prop}
  (hc : X.calm = true) (S : Ap X sc x caps ix) (he : ∀ C s H ex, PE (Aj X sc (Ae X caps) (x :: caps) C s H ex) elt te) (ht : ∀ C s H ex, PTs (Aj X sc (Ae X caps) (x :: caps) C s H ex) ifs tc)
  (I : Inv X pins σ H s) (T : G5 X.prog X.w X.K (.Name x px) J fp it tn) (st : tn 0 s.heap) (hf : ∀ b ∈ fp, DV X pins H b) (h : ∀ D, H D = none → Db te tc (BX σ ix) J D H (QH D))
  (hRR : ∀ D C (ps : List (Addr × Obj)) σ' H' s', s.heap.objs.size ≤ C → Inv (Aj X sc (Ae X caps) (x :: caps) C s H fp) ps σ' H' s' → QH D H' → RR (.ref D) C (.ok .next) s') :
  wpAny (model X.prog X.w) X.A (newList []) (fun acc s₃ => wpAny (model X.prog X.w) X.A (newFunctionEnv sc X.env.globals (Ae X caps) [] X.env.qual none .none (some X.env)) (fun cenv s₄ =>
   codeAny (model X.prog X.w) X.A (.compStart (.ListComp elt [⟨.Name x px, iter, ifs, 0⟩] sc pos) 0 (.ref it) acc { cenv with scope := relabel sc X.env }) (RR acc cenv.locals) s₄) E s₃) E s := by
 refine wpAny_newObj_type (wpAny_newFunctionEnv S.nocell (by intro y hy; simp at hy) (fun h₁ hns₁ hsb₁ => ?_) S.kind)
 dsimp only at hns₁ hsb₁ ⊢
 generalize hH2 : s.heap.push { cls := .type "list", dict := none, data := .seq ([] : List Value).toArray } = H2 at hns₁ hsb₁ ⊢
 have hC : H2.objs.size = s.heap.objs.size + 1 := by rw [← hH2, Heap.size_push]
 have hDC : s.heap.objs.size ≠ H2.objs.size := by rw [hC]; exact Nat.ne_of_lt (Nat.lt_succ_self _)
 have hCle : s.heap.objs.size ≤ H2.objs.size := by rw [hC]; exact Nat.le_succ _
 have below : ∀ b, b < s.heap.objs.size → b ≠ H2.objs.size := fun b hb => by rw [hC]; exact Nat.ne_of_lt (Nat.lt_succ_of_lt hb)
 have old : ∀ b o, s.heap.get? b = some o → h₁.get? b = some o := fun b o e => hsb₁.extBut b o (below b (Heap.lt_size e)) (Heap.get?_push_of_some _ (hH2 ▸ Heap.get?_push_of_some _ e))
 have hacc : h₁.get? s.heap.objs.size = some { cls := .type "list", data := .seq #[] 0 } := hsb₁.extBut _ _ hDC (Heap.get?_push_of_some _ (hH2 ▸ Heap.get?_push_size _ rfl))
 have hb : ∀ b ∈ fp, b < s.heap.objs.size := fun b hbf => by obtain ⟨o, e, _⟩ := T.obj _ _ st b hbf; exact Heap.lt_size e
 have I1 := S.start (tk := s.toks + ([] : List (Str × Value)).length) I hf hb (Nat.le_refl _) hCle hDC old hacc hns₁
 obtain ⟨W, ⟨m0, w0⟩, turn⟩ := h _ (I.hok.fresh (Nat.le_refl _))
 have stat : ∀ {H' : Hp}, (∀ b ∈ fp, H' b = none) → ∀ b ∈ fp, DV (Aj X sc (Ae X caps) (x :: caps) H2.objs.size s H fp) [] H' b := fun {H'} hn b hbf =>
  ⟨hn b hbf, (I1.ok.exf b hbf).1, I1.ok.exfs b hbf, .inl hbf, (I1.ok.exf b hbf).2, fun p hp => absurd (show p ∈ ([] : List (Addr × Obj)) from hp) (by simp)⟩
 have st1 : tn 0 h₁ := T.keep _ _ _ st fun b hbf o e => old b o e
 have fr1 : ∀ b ∈ fp, upd H s.heap.objs.size (.lst []) b = none := fun b hbf => by
  rw [Ac (Nat.ne_of_lt (hb b hbf))]; exact (hf b hbf).1
 have loop : ∀ s₃ : Shared, s₃ = { s with heap := h₁, toks := s.toks + ([] : List (Str × Value)).length } →
   codeAny (model X.prog X.w) X.A (.compLoop (.ListComp elt [⟨.Name x px, iter, ifs, 0⟩] sc pos) 0 (.ref it) (.ref s.heap.objs.size) (compEnvC sc (Ae X caps) H2.objs.size X.env))
    (RR (.ref s.heap.objs.size) H2.objs.size) s₃ := by
  rintro s₃ rfl
  refine FP (fun n s' => ∃ i ys H' ov, Inv (Aj X sc (Ae X caps) (x :: caps) H2.objs.size s H fp) [] (ov :: BX σ ix) H' s' ∧ tn i s'.heap ∧ (∀ b ∈ fp, H' b = none) ∧ W i n ys H') rfl ?_ m0 ⟨0, [], _, none, I1, st1, fr1, w0⟩
  rintro n s3 ⟨i, ys, H3, ov, I3, st3, fr3, w3⟩
  rcases turn i n ys H3 w3 with ⟨stop, q⟩ | ⟨go, step⟩
  ·refine A2 (thn (T.done (Aj X sc (Ae X caps) (x :: caps) H2.objs.size s H fp) rfl rfl rfl hc i [] s3 _ H3 _ I3 (stat fr3) st3 stop) fun r s4 ⟨hr, I4⟩ => ?_)
   subst hr
   exact hRR _ _ _ _ _ _ hCle I4 q
  ·refine A2 (thn (T.item (Aj X sc (Ae X caps) (x :: caps) H2.objs.size s H fp) rfl rfl rfl hc i [] s3 _ H3 _ I3 (stat fr3) st3 go) fun r s4 ⟨u, hr, h4⟩ => ?_)
   subst hr
   refine A2 (thn h4 fun _ s5 ⟨v, H5, I5, r5, y5, st5, fr5⟩ => ?_)
   have I5' := I5.pinned (stat fr5) (T.obj _ _ st5)
   have hg : PG (Aj X sc (Ae X caps) (x :: caps) H2.objs.size s H fp) (.Name x px) (CI 0) := BR (i := 0) S.nd rfl (.inl (lookup_relabel_local S.hx)) (.inr (lookup_relabel_local S.hx))
   have again : ∀ {s7 : Shared} {H7 : Hp} {ys' : List V}, Inv (Aj X sc (Ae X caps) (x :: caps) H2.objs.size s H fp) ([] ++ Dw fp s5.heap) (some v :: BX σ ix) H7 s7 → (∃ m', m' < n ∧ W (i + 1) m' ys' H7) →
     ∃ m, m < n ∧ ∃ i ys H' ov, Inv (Aj X sc (Ae X caps) (x :: caps) H2.objs.size s H fp) [] (ov :: BX σ ix) H' s7 ∧ tn i s7.heap ∧ (∀ b ∈ fp, H' b = none) ∧ W i m ys H' := fun {s7 H7 ys'} I7 ⟨m', hm, w7⟩ => by
    refine ⟨m', hm, i + 1, ys', H7, some v, I7.unpinned, T.keep _ _ _ st5 fun b hb o e => (I7.pin (b, o) (List.mem_append_right _ (List.mem_append_right _ (Bg hb e)))).1, fun b hb => ?_, w7⟩
    obtain ⟨o, e, d⟩ := T.obj _ _ st5 b hb
    exact (I7.pin (b, o) (List.mem_append_right _ (List.mem_append_right _ (Bg hb e)))).2.1
   refine A2 (thn (hg _ s5 _ H5 v u (fun σ' H' => σ' = some v :: BX σ ix ∧ H' = H5) I5' r5 ⟨rfl, rfl⟩) fun _ s6 ⟨σ6, H6, I6, e6, e6'⟩ => ?_)
   subst e6 e6'
   refine A2 (thn (ht _ _ _ _ _ s6 _ H6 _ I6 (step v H6 y5)) fun ok s7 ⟨H7, I7, q7⟩ => ?_)
   cases ok with
   | false => exact again I7 (by simpa using q7)
   | true =>
    rw [if_pos rfl] at q7
    rw [if_pos rfl]
    refine A2 (thn (he _ _ _ _ _ s7 _ H7 _ I7 q7) fun yv s8 ⟨y, H8, I8, r8, hD8, hz8, q8⟩ => ?_)
    refine A2 (thn (GN _ s8 _ H8 (.ref s.heap.objs.size) [y] _ [yv] (fun _ H9 => H9 = upd H8 s.heap.objs.size (.lst (ys ++ [y]))) I8 rfl (.cons r8 .nil) ⟨_, _, _, rfl, rfl, hD8, hz8, rfl⟩) fun _ s9 ⟨_, H9, I9, _, e9⟩ => ?_)
    subst e9
    exact again I9 q8
 exact codeAny_compStart_list (loop _ rfl) (T.self _ 0 _ _ _ st1 (loop _ rfl))
theorem Fn {elt iter : Expr} {px pos : Pos} {ifs : List Expr} {wi : TI} {te : TE} {tc : TT} (hc : X.calm = true) (S : Ap X sc x caps ix) (hi : PI X (.Name x px) iter wi)
  (he : ∀ C s H ex, PE (Aj X sc (Ae X caps) (x :: caps) C s H ex) elt te) (ht : ∀ C s H ex, PTs (Aj X sc (Ae X caps) (x :: caps) C s H ex) ifs tc)
  (hs : ∀ x, foldedSetIterable iter X.env x = pure x := by intro _; rfl) : PE X (.ListComp elt [⟨.Name x px, iter, ifs, 0⟩] sc pos) (CC wi te tc ix) := by
 intro pins s σ H Q I h
 rw [eval_ListComp]
 refine wpAny_comprehension_free (use := none) rfl hs S.clos S.kind S.names (thn (hi pins s σ H _ I h) fun v s1 h1 => thn h1 fun itv s2 h2 => ?_)
 obtain ⟨it, fp, tn, J, H2, e, I2, T, st2, f2, q⟩ := h2
 subst e
 refine Fa (RR := fun acc C => compPost (model X.prog X.w) X.A X.xe none (EP X pins σ Q) acc C) (QH := fun D H' => Q (.ref D) H') hc S he ht I2 T st2 f2 q ?_
 intro D C ps σ' H' s' hC I' hq
 obtain ⟨m, hn, _⟩ := I'.loc
 exact ⟨m, hn, fun h'' hs => ⟨.ref D, H', S.back I2 f2 hC I' hs, rfl, hq⟩⟩
end
def EO (n i : Nat) (ys : List V) (D : Addr) (Pv : Nat → List V → Hp → Prop) (y : V) (H3 : Hp) : Prop :=
 H3 D = some (.lst ys) ∧ ys.length < sizeLine ∧ ∃ m', m' < n - i ∧ m' = n - (i + 1) ∧ i + 1 ≤ n ∧ (ys ++ [y]).length = i + 1 ∧ Pv (i + 1) (ys ++ [y]) (upd H3 D (.lst (ys ++ [y])))
theorem EO.of {n i : Nat} {ys : List V} {D : Addr} {Pv : Nat → List V → Hp → Prop} {y : V} {H3 : Hp} (hn : n ≤ sizeLine) (hi : i < n) (hl : ys.length = i) (h1 : H3 D = some (.lst ys)) (h2 : Pv (i + 1) (ys ++ [y]) (upd H3 D (.lst (ys ++ [y])))) : EO n i ys D Pv y H3 :=
 ⟨h1, by omega, _, by omega, rfl, hi, by rw [List.length_append, hl]; rfl, h2⟩
theorem GY {K : PySem.W.Frag} {a : Addr} {xs : List V} {te : TE} {caps : St} {D : Addr} {H1 : Hp} {Q : Hp → Prop} (Pv : Nat → List V → Hp → Prop) (h0 : Pv 0 [] (upd H1 D (.lst []))) (hl : ∀ i ys H, i ≤ xs.length → Pv i ys H → SqL K H a xs)
  (hs : ∀ i x ys H, xs[i]? = some x → ys.length = i → Pv i ys H → te (some x :: caps) H (EO xs.length i ys D Pv))
  (hd : ∀ ys H, ys.length = xs.length → Pv xs.length ys H → Q H) : Db te Bp caps (Itl K a) D H1 Q := by
 refine ⟨fun i m ys H => m = xs.length - i ∧ i ≤ xs.length ∧ ys.length = i ∧ Pv i ys H, ⟨xs.length, rfl, Nat.zero_le _, rfl, h0⟩, ?_⟩
 rintro i m ys H ⟨rfl, hi, hy, p⟩
 have q := hl i ys H hi p
 by_cases hlt : i < xs.length
 ·refine .inr ⟨⟨xs, xs[i], q, by simp [hlt]⟩, fun v H' y => ?_⟩
  obtain ⟨e, y⟩ := y
  subst e
  unfold Bp
  dsimp only
  rw [if_pos rfl]
  exact hs i v ys _ (y xs q) hy p
 ·have e : i = xs.length := by omega
  subst e
  exact .inl ⟨⟨xs, q, by simp⟩, hd ys H hy p⟩
theorem AE.updFresh {H H3 : Hp} {D : Addr} {o : HO} (s : AE H H3) (hD : H D = none) : AE H (L2.upd H3 D o) := fun b u e => by
 rw [Ac (Aq e hD)]; exact s b u e
theorem D0 {K : PySem.W.Frag} {a : Addr} {xs : List V} {te : TE} {caps : St} {D : Addr} {H1 : Hp} {Q : Hp → Prop} (hz : xs.length ≤ sizeLine) (hD : H1 D = none) (hl : SqL K H1 a xs) (f : V → V)
  (hs : ∀ x H (R : VK), x ∈ xs → AE H1 H → R (f x) H → te (some x :: caps) H R)
  (hd : ∀ H, AE H1 H → H D = some (.lst (xs.map f)) → Q H) : Db te Bp caps (Itl K a) D H1 Q := by
 refine GY (xs := xs) (fun i ys H => AE H1 H ∧ H D = some (.lst ys) ∧ ys = (xs.take i).map f) ⟨At hD, AW, rfl⟩ (fun _ _ H _ ⟨s1, _, _⟩ => s1.seq hl) ?_ ?_
 ·rintro i x ys H hx hy ⟨s1, e1, e2⟩
  have hi : i < xs.length := (List.getElem?_eq_some_iff.mp hx).1
  refine hs x H _ (List.mem_of_getElem? hx) s1 (EO.of hz hi hy e1 ⟨s1.updFresh hD, AW, ?_⟩)
  rw [List.take_succ, hx, List.map_append, e2]; rfl
 ·rintro ys H hy ⟨s1, e1, e2⟩
  rw [List.take_length] at e2
  subst e2
  exact hd H s1 e1
end L2
set_option Elab.async false
set_option linter.all false
set_option maxRecDepth 100000
set_option maxHeartbeats 4000000
namespace L2
open PySem PySem.W PyProof.Rows
section
variable {n : Nat} {lt : Nat → Nat → Bool} {p : Array Nat}
end
section
variable {prog : Program} {w : World} {A : Around} {E : Value → Shared → Prop} {s : Shared}
end
section
variable {prog : Program} {w : World} {A : Around} {s : Shared}
end
section
variable {X : Cx}
def Bm (K : PySem.W.Frag) : List V → Hp → VK → Prop := fun xs H Q => ∃ l, xs = [.ref l] ∧ ∃ zs : List (Addr × List Int), SqL K H l (zs.map fun z => V.ref z.1) ∧ (∀ z ∈ zs, z.2 ≠ [] ∧ SqT K H z.1 (z.2.map V.int)) ∧ (zs.map (·.2)).Nodup ∧ zs.length < 64 ∧
 ∀ (D : Addr) (H' : Hp) (zs' : List (Addr × List Int)), H D = none → AE H H' → H' D = some (.lst (zs'.map fun z => V.ref z.1)) → zs'.Perm zs → zs'.Pairwise (fun a b => HT.lexLt a.2 b.2 = true) → Q (.ref D) H'
end
section
variable {X : Cx} {pos : Pos}
def Bk : TE := fun _ H Q => ∀ p H', H p = none → AE H H' → H' p = some (.dK []) → Q (.ref p) H'
end
section
variable {X : Cx} {o e : Expr} {to te : TE} {pos : Pos}
def BF (to te : TE) : TE := fun σ H Q => to σ H fun x H1 => ∃ l, x = .ref l ∧ ∃ xs, H1 l = some (.lst xs) ∧ te σ H1 fun y H2 => ∃ ys, H2 l = some (.lst ys) ∧ ys.length < sizeLine ∧ Q .non (upd H2 l (.lst (ys ++ [y])))
end
section
variable {X : Cx} {o e : Expr} {to te : TE} {pos apos cpos : Pos}
end
section
variable {X : Cx} {pos : Pos}
def EM (i j k : Nat) (ta : TA) : TS := fun D σ H => ta σ H fun vs H1 => ∃ v w u, vs = [v, w, u] ∧ D.nx (((σ.set i (some v)).set j (some w)).set k (some u)) H1
end
section
variable {X : Cx}
def E1 (K : PySem.W.Frag) : R2 := fun x y H Q => ∃ a b, x = .ref a ∧ y = .ref b ∧ ∃ ns : List Int, SqT K H a (ns.map V.int) ∧ ∃ ms : List Int, SqT K H b (ms.map V.int) ∧ Q (.bl (decide (ns = ms))) H
def EU (K : PySem.W.Frag) : R2 := fun x y H Q => ∃ a b, x = .ref a ∧ y = .ref b ∧ ∃ ns : List Int, SqT K H a (ns.map V.int) ∧ ∃ ms : List Int, SqT K H b (ms.map V.int) ∧ Q (.bl (!decide (ns = ms))) H
def Ca (K : PySem.W.Frag) : R2 := fun x y H Q => ∃ a b, x = .ref a ∧ y = .ref b ∧ ∃ xs, SqL K H a xs ∧ SqL K H b [] ∧ Q (.bl (decide (xs = []))) H
def Ec (K : PySem.W.Frag) : V → Option Int → Option Int → Hp → VK → Prop := fun x lo hi H Q => ∃ a, x = .ref a ∧ ∃ xs, SqL K H a xs ∧ ∀ p H', H p = none → AE H H' → H' p = some (.lst (cutV xs lo hi)) → Q (.ref p) H'
end
end L2
set_option Elab.async false
set_option linter.all false
set_option maxRecDepth 100000
set_option maxHeartbeats 4000000
namespace L2
open PySem PySem.Spec PyProof.Rows
section
variable {X : Cx} {pins : List (Addr × Obj)} {σ : St} {H : Hp} {s : Shared} {h' : Heap}
end
def Ite (K : PySem.W.Frag) (a : Addr) : It :=
 ⟨fun i H => ∃ xs x, SqL K H a xs ∧ xs[i]? = some x, fun i H x H' => ∃ p y, x = .ref p ∧ H p = none ∧ H' = upd H p (.tup [.int (i : Int), y]) ∧ ∀ xs, SqL K H a xs → xs[i]? = some y, fun i H => ∃ xs, SqL K H a xs ∧ xs.length ≤ i⟩
section
variable {X : Cx}
def Cb (K : PySem.W.Frag) (ta : TA) : TI := fun σ H R => ta σ H fun vs H1 => ∃ a, vs = [.ref a] ∧ (∃ xs, SqL K H1 a xs) ∧ R (Ite K a) H1
theorem Iq : bootBuiltins "all" = some (.builtin "all") := by decide +kernel
def D1 (K : PySem.W.Frag) : List V → Hp → VK → Prop := fun xs H Q => ∃ a, xs = [.ref a] ∧ ∃ ys : List Bool, SqL K H a (ys.map V.bl) ∧ Q (.bl (ys.all id)) H
theorem Gs (hc : X.calm = true) : C3 X (.builtin "all") (D1 X.K) := by
 intro pins s σ H xs us Q I r h
 obtain ⟨a, rfl, ys, hq, q⟩ := h
 obtain ⟨u, rfl, rx⟩ := vals1 r
 cases rx
 obtain ⟨its, r', pl, hz⟩ := I.list hq
 have hlen := r'.length
 rw [List.length_map] at hlen
 have hlt : a < s.heap.objs.size := by obtain ⟨o, n, e, _⟩ := id pl; exact Heap.lt_size e
 refine call_all_walk (wpAny_pyIter_list pl.isList ?_)
 refine ⟨s.heap.objs.size, _, _, _, _, _, fun i => ys.getD i true, rfl, Walks.list (A := X.A.in1) (I.ok.hd hc) _ a (Nat.ne_of_lt hlt) its.toArray, ⟨⟨_, Heap.get?_push_size _ rfl, rfl, rfl⟩, pl.isList.at fun o e => Heap.get?_push_of_some _ e⟩, ?_, fun h' tk hk => ?_⟩
 ·intro i v s Q E hP hQ
  have hv : its[i]? = some v := by simpa using hP
  obtain ⟨hi, _⟩ := List.getElem?_eq_some_iff.mp hv
  obtain ⟨u, e1, e2⟩ := r'.get (i := i) (x := V.bl (ys.getD i true)) (by rw [List.getElem?_map, List.getElem?_eq_getElem (by omega), List.getD_eq_getElem?_getD, List.getElem?_eq_getElem (by omega)]; rfl)
  have e3 : v = u := Option.some.inj (hv.symm.trans e1)
  have e2 : u = Value.bool (ys.getD i true) := e2
  rw [e3, e2]
  exact wpAny_truthy_bool hQ
 ·have I2 : Inv X pins σ H { s with heap := h', toks := tk } := I.kept fun b o e => hk b o (fun z => by
   rw [List.mem_singleton.mp z] at e
   exact absurd (Heap.lt_size e) (Nat.lt_irrefl _)) (Heap.get?_push_of_some _ e)
  refine ⟨.bl (ys.all id), H, I2, ?_, q⟩
  show Value.bool _ = Value.bool _
  congr 1
  rw [show its.toArray.size = ys.length by simp [hlen], Bool.eq_iff_iff]
  simp only [List.all_eq_true, List.mem_range, id]
  constructor
  ·intro hh b hb
   obtain ⟨i, hi, rfl⟩ := List.getElem_of_mem hb
   have := hh i hi
   rwa [List.getD_eq_getElem?_getD, List.getElem?_eq_getElem hi] at this
  ·intro hh i hi
   rw [List.getD_eq_getElem?_getD, List.getElem?_eq_getElem hi]
   exact hh _ (List.getElem_mem hi)
end
end L2
set_option Elab.async false
set_option linter.all false
set_option maxRecDepth 100000
set_option maxHeartbeats 4000000
namespace TG
open PySem L2
theorem FL {d r : Int} (hd : 0 ≤ d) (hr : 0 < r) : Int.gcd r (d.fmod r) = Int.gcd d r := by
 rw [Int.fmod_eq_emod_of_nonneg d (Int.le_of_lt hr)]
 obtain ⟨n, rfl⟩ := Int.eq_ofNat_of_zero_le hd
 obtain ⟨m, rfl⟩ := Int.eq_ofNat_of_zero_le (Int.le_of_lt hr)
 show Nat.gcd m (((n % m : Nat) : Int)).natAbs = Nat.gcd n m
 rw [Int.natAbs_natCast, Nat.gcd_comm n m, Nat.gcd_rec m n, Nat.gcd_comm]
theorem Ft {d r : Int} (hr : 0 < r) : 0 ≤ d.fmod r ∧ d.fmod r < r := ⟨Int.fmod_nonneg_of_pos d hr, Int.fmod_lt_of_pos d hr⟩
theorem EL {d : Int} (hd : 0 ≤ d) : ((Int.gcd d 0 : Nat) : Int) = d := by
 rw [Int.gcd_zero_right]; omega
structure EY (t b x y : Int) : Prop where
 ex : ∃ g : Int, g ≠ 0 ∧ t = g * x ∧ b = g * y
 pos : 0 < y
 one : Int.gcd x y = 1
theorem B9 {g x : Int} (hg : g ≠ 0) : x.natAbs ≤ (g * x).natAbs := by
 rw [Int.natAbs_mul]
 exact Nat.le_mul_of_pos_left _ (by omega)
theorem EY.absx {t b x y : Int} (h : EY t b x y) : x.natAbs ≤ t.natAbs := by
 obtain ⟨g, hg, rfl, rfl⟩ := h.ex
 exact B9 hg
theorem EY.absy {t b x y : Int} (h : EY t b x y) : y.natAbs ≤ b.natAbs := by
 obtain ⟨g, hg, rfl, rfl⟩ := h.ex
 exact B9 hg
theorem Hn (t b : Int) : Int.gcd (if t < 0 then -t else t) (if b < 0 then -b else b) = Int.gcd t b := by
 split <;> split <;> simp [Int.gcd_neg, Int.neg_gcd]
theorem JE {t b : Int} (hb : b ≠ 0) {d : Int} (hd : d = if b < 0 then -((Int.gcd t b : Nat) : Int) else ((Int.gcd t b : Nat) : Int)) : EY t b (t.fdiv d) (b.fdiv d) ∧ d ≠ 0 := by
 have hg : 0 < Int.gcd t b := Int.gcd_pos_of_ne_zero_right t hb
 have hd0 : d ≠ 0 := by rw [hd]; split <;> omega
 have habs : d.natAbs = Int.gcd t b := by rw [hd]; split <;> omega
 have h1 : d ∣ t := by
  rw [← Int.natAbs_dvd, habs]; exact Int.gcd_dvd_left ..
 have h2 : d ∣ b := by
  rw [← Int.natAbs_dvd, habs]; exact Int.gcd_dvd_right ..
 obtain ⟨x, hx⟩ := h1
 obtain ⟨y, hy⟩ := h2
 have ex : t.fdiv d = x := by rw [hx, Int.mul_fdiv_cancel_left _ hd0]
 have ey : b.fdiv d = y := by rw [hy, Int.mul_fdiv_cancel_left _ hd0]
 rw [ex, ey]
 refine ⟨⟨⟨d, hd0, hx, hy⟩, ?_, ?_⟩, hd0⟩
 ·rcases Int.lt_trichotomy y 0 with h | h | h
  ·exfalso
   by_cases hbn : b < 0
   ·rw [if_pos hbn] at hd
    have : 0 < d * y := Int.mul_pos_of_neg_of_neg (by omega) h
    omega
   ·rw [if_neg hbn] at hd
    have : d * y < 0 := Int.mul_neg_of_pos_of_neg (by omega) h
    omega
  ·rw [h, Int.mul_zero] at hy; exact absurd hy hb
  ·exact h
 ·have e : Int.gcd t b = d.natAbs * Int.gcd x y := by
   conv => lhs; rw [hx, hy]
   exact Int.gcd_mul_left ..
  rw [habs] at e
  have e2 : Int.gcd t b * 1 = Int.gcd t b * Int.gcd x y := by rw [Nat.mul_one]; exact e
  exact (Nat.eq_of_mul_eq_mul_left hg e2).symm
structure G where
 p : Int
 f : Int
 h : Int
abbrev G.vs (g : G) : List V := [.int g.p, .int g.f, .int g.h]
def GsAt (H : Hp) (as : List Addr) (gs : List G) : Prop := Paired (fun a g => H a = some (.tup (G.vs g))) as gs
theorem G3 {xs : List Int} {i : Int} (h0 : 0 ≤ i) (h1 : i < xs.length) : atI (xs.map V.int) i = some (V.int (xs.getD i.toNat 0)) := by
 obtain ⟨n, rfl⟩ := Int.eq_ofNat_of_zero_le h0
 have hn : n < xs.length := by omega
 refine E5 ?_
 rw [List.getElem?_map, List.getElem?_eq_getElem hn, Int.toNat_natCast, List.getD_eq_getElem?_getD, List.getElem?_eq_getElem hn]; rfl
def E2 (a b c : G) : Prop := a.h * (c.p - b.p) + c.h * (b.p - a.p) < b.f * (c.p - a.p)
def EW (a b c : G) : Prop := b.h * (c.p - a.p) < a.f * (c.p - b.p) + c.f * (b.p - a.p)
instance (a b c : G) : Decidable (E2 a b c) := by unfold E2; exact inferInstance
instance (a b c : G) : Decidable (EW a b c) := by unfold EW; exact inferInstance
def Bars (a b c : G) : Prop := E2 a b c ∨ EW a b c
instance (a b c : G) : Decidable (Bars a b c) := by unfold Bars; exact inferInstance
def Asc (gs : List G) : Prop := gs.Pairwise fun a b => a.p < b.p
section
variable {X : Cx}
def Bl (K : PySem.W.Frag) : List V → Hp → VK → Prop := fun xs H Q => ∃ l, xs = [.ref l] ∧ ∃ (as : List Addr) (gs : List G), SqL K H l (as.map V.ref) ∧ GsAt H as gs ∧ (gs.map G.p).Nodup ∧ gs.length < 64 ∧
 ∀ (D : Addr) (H' : Hp) (as' : List Addr) (gs' : List G), H D = none → AE H H' → H' D = some (.lst (as'.map V.ref)) → GsAt H' as' gs' → gs'.Perm gs → Asc gs' → Q (.ref D) H'
end
def Pas (a b c d pl f h : Int) : Prop := f * (b * d) ≤ a * d + pl * c * b ∧ a * d + pl * c * b ≤ h * (b * d)
instance (a b c d pl f h : Int) : Decidable (Pas a b c d pl f h) := by unfold Pas; exact inferInstance
end TG
set_option Elab.async false
set_option linter.all false
set_option maxRecDepth 100000
set_option maxHeartbeats 4000000
namespace L2
open PySem PySem.Spec PyProof.Rows
theorem Ak.here {P : Program} {w : World} {H : Hp} {h : Heap} {a : Addr} {o : HO} (x : Ak P w H h a o) : ∃ ob, h.get? a = some ob := by
 cases q : h.get? a with
 | some ob => exact ⟨ob, rfl⟩
 | none =>
  exfalso
  have x' : Ak P w H h a o := x
  induction o with
  | lst xs => obtain ⟨_, _, _, _, e⟩ := x'; rw [q] at e; cases e
  | tup xs => obtain ⟨_, _, _, o, e, _⟩ := x'; rw [q] at e; cases e
  | dK kvs => obtain ⟨_, _, _, _, o, _, _, e, _⟩ := x'; rw [q] at e; cases e
  | dT kvs => obtain ⟨_, _, _, _, o, _, _, e, _⟩ := x'; rw [q] at e; cases e
  | set S n => obtain ⟨o, _, _, _, e, _⟩ := x'; rw [q] at e; cases e
  | ins C dx fs => obtain ⟨_, _, _, e, _⟩ := x'; rw [q] at e; cases e
  | own b => obtain ⟨o, e⟩ := x'; rw [q] at e; cases e
  | xd fs => obtain ⟨_, ⟨o, _, _, e, _⟩, _⟩ := x'; rw [q] at e; cases e
  | rng lo hi => obtain ⟨_, _, _, e⟩ := x'; rw [q] at e; cases e
  | frz o u ih => exact ih x'.2 x'.2
  | tbl ps => have e : h.get? a = _ := x'; rw [q] at e; cases e
  | met f y => have e : h.get? a = _ := x'; rw [q] at e; cases e
  | ext φ => obtain ⟨_, ⟨o, e⟩, _⟩ := x'; rw [q] at e; cases e
def Fly (l : List Env) (hs : Heap) (H' : Hp) (ea : Addr) (cls : Value) (h : Heap) : Prop :=
 ∃ (B : Heap) (a0 : Value), Heap.FlyingW B l ea cls a0 h ∧ (∀ b o, hs.get? b = some o → b ∉ frs l → ∃ o', B.get? b = some o') ∧ ∀ b, H' b ≠ none → ∃ o', B.get? b = some o'
def CXE (P : Program) (w : World) : CXT := fun outer H s E e s' => ∃ (ea : Addr) (cls : Value) (H' : Hp), e = .ref ea ∧ s'.os = s.os ∧ AllBare s'.gens ∧ Un (frs outer) [] H H' s.heap s'.heap ∧ HOk P w H' s'.heap ∧ Fly outer s.heap H' ea cls s'.heap ∧ E cls none H'
section
variable {X : Cx} {pins : List (Addr × Obj)} {σ σ1 : St} {H H1 H' : Hp} {s s1 s' : Shared} {h' B : Heap} {ea : Addr} {cls : Value}
theorem Inv.notStack (I : Inv X pins σ H s) {b : Addr} {o : Obj} (e : X.s₀.heap.get? b = some o) (hb : b ∉ X.fs) : b ∉ frs X.stack := fun hm => by
 rcases List.mem_cons.mp (I.stkSub b hm) with z | z
 ·exact absurd (Nat.lt_of_lt_of_le (Heap.lt_size e) I.ok.above) (by rw [z]; exact Nat.lt_irrefl _)
 ·exact hb z
theorem Inv.fly (I1 : Inv X pins σ1 H1 s1) (I : Inv X pins σ H s) (hB : B.StaysIn s.heap) (hB' : B.StaysIn h') (up : s.heap.UpToSlots h')
  (c1 : ∀ b o, s1.heap.get? b = some o → b ∉ frs X.stack → ∃ o', B.get? b = some o') (c2 : ∀ b, H b ≠ none → ∃ o', B.get? b = some o') : Inv X pins σ H { s with heap := h' } := by
 have via : ∀ b o, s.heap.get? b = some o → (∃ o', B.get? b = some o') → h'.get? b = some o := fun b o e ⟨o', eb⟩ => by
  have := hB b o' eb
  rw [e] at this
  cases this
  exact hB' b o eb
 have slot : ∀ b o, X.s₀.heap.get? b = some o → X.H₀ b = none → b ∈ X.fs → b ∉ X.ex → ∃ sl, h'.get? b = some { o with slots := sl } := fun b o e n hb hx => by
  obtain ⟨sl, e1⟩ := I.base.slot b o e n hb hx
  obtain ⟨_, of, hof, hnf⟩ := I.ok.funs.mem hb
  rw [e] at hof
  cases hof
  obtain ⟨sl', e2⟩ := up b _ e1 hnf
  exact ⟨sl', e2⟩
 have cellK : ∀ c v, s.heap.IsCell c v → h'.IsCell c v := fun c v ⟨o, ho, hd⟩ => by
  obtain ⟨sl, e⟩ := up c o ho (fun vs q => by rw [hd] at q; cases q)
  exact ⟨_, e, hd⟩
 refine ⟨I.ok, I.os, I.bare, ⟨fun b o e n hb hx => ?_, slot, I.base.free, fun b o e hx => ?_, I.base.tups, I.base.frzs, I.base.tbls⟩, ?_, fun x c e => ?_, I.free, I.freeC, fun p hp => ?_, fun b u e => ?_, I.len⟩
 ·exact via b o (I.base.keep b o e n hb hx) (c1 b o (I1.base.keep b o e n hb hx) (I.notStack e hb))
 ·by_cases hb : b ∈ X.fs
  ·obtain ⟨sl, q⟩ := slot b o e (I.ok.frf b hb) hb hx
   exact ⟨_, q⟩
  ·obtain ⟨o1, a1⟩ := I1.base.there b o e hx
   obtain ⟨o', eb⟩ := c1 b o1 a1 (I.notStack e hb)
   exact ⟨o', hB' b o' eb⟩
 ·obtain ⟨m, hn, hl⟩ := I.loc
  refine ⟨m, up.ns hn, fun i x v e1 e2 e3 => ?_⟩
  obtain ⟨u, r, l⟩ := hl i x v e1 e2 e3
  refine ⟨u, r, ?_⟩
  rcases l with l | ⟨k, c, e, z⟩
  ·exact .inl l
  ·exact .inr ⟨k, c, e, cellK c _ z⟩
 ·obtain ⟨v, z⟩ := I.cell x c e
  exact ⟨v, cellK c v z⟩
 ·obtain ⟨e, n, ne, nf, d⟩ := I.pin p hp
  refine ⟨via p.1 p.2 e (c1 p.1 p.2 (I1.pin p hp).1 fun hm => ?_), n, ne, nf, d⟩
  rcases List.mem_cons.mp (I.stkSub _ hm) with z | z
  ·exact ne z
  ·exact nf z
 ·refine (I.hok b u e).stay (fun c v hc q => via c v q (c2 c ?_)) (fun _ q => q) fun _ _ q => q
  rcases hc with z | z
  ·rw [z, e]; simp
  ·rw [z]; simp
structure Arr (X : Cx) (pins : List (Addr × Obj)) (σ : St) (ea : Addr) (cls : Value) (H' : Hp) (s' : Shared) : Prop where
 inv : Inv X pins σ H' s'
 fly : ∃ (H1 : Hp) (s1 : Shared), Inv X pins σ H1 s1 ∧ Fly X.stack s1.heap H' ea cls s'.heap
theorem Gv {E : XK} {e : Value} (I : Inv X pins σ H s) (h : CXE X.prog X.w X.stack H s E e s') : ∃ ea cls H', e = .ref ea ∧ Arr X pins σ ea cls H' s' ∧ E cls none H' := by
 obtain ⟨ea, cls, H', rfl, os, bare, un, hok, fl, hE⟩ := h
 exact ⟨ea, cls, H', rfl, ⟨I.call' (ch := []) os un hok bare (fun b z => absurd z (by simp)), H, s, I, fl⟩, hE⟩
end
section
variable {P : Program} {w : World} {K : PySem.W.Frag} {mg : Str → Option Value} {base : Heap} {N : List Str} {qual : Str} {scope : Scope} {f : Addr} {cd : Value} {A : Around} {outer : List Env} {s : Shared} {H : Hp} {E : XK}
 {pins : List (Addr × Obj)} {σ : St} {H1 H' : Hp} {s1 s' : Shared} {ea : Addr} {cls : Value} {h' : Heap} {args : List Value}
theorem IZ (a : Arr (CW (CXE P w) P w K mg base N qual scope f cd A outer s H E) pins σ ea cls H' s') (hE : E cls none H') : (CW (CXE P w) P w K mg base N qual scope f cd A outer s H E).xe (.ref ea) s' := by
 obtain ⟨I, H1, s1, I1, B, a0, fl, c1, c2⟩ := a
 refine wpAny_leaves_onW (A := A.deeper (envOfC qual scope s.heap.objs.size f cd)) (env := envOfC qual scope s.heap.objs.size f cd) (outer := outer) I.ok.frames rfl fl fun h' fl' up => ?_
 have I2 := Inv.fly I1 I fl.1 fl'.1 up c1 c2
 refine ⟨ea, cls, H', rfl, I2.os, I2.bare, I2.base, I2.hok, ⟨B, a0, fl', fun b o e hb => ?_, c2⟩, hE⟩
 obtain ⟨o1, a1⟩ := I1.base.there b o e (fun z => absurd (show b ∈ ([] : List Addr) from z) (by simp))
 exact c1 b o1 a1 (I.notStack e hb)
theorem HZ (I : Inv (CW (CXE P w) P w K mg base N qual scope f cd A outer s H E) pins σ H1 s1) (hx : Heap.MadeExcOf s1.heap h' ea cls args) (hE : E cls none H1) : (CW (CXE P w) P w K mg base N qual scope f cd A outer s H E).xe (.ref ea) { s1 with heap := h' } := by
 have hin : ∀ env ∈ (envOfC qual scope s.heap.objs.size f cd :: outer), ∀ b, env.frame = some b → b ∈ frs (envOfC qual scope s.heap.objs.size f cd :: outer) := fun env he b hb => List.mem_filterMap.mpr ⟨env, he, hb⟩
 have hfun : s1.heap.FunFrames (PySem.W.hideAll s1.heap (frs (envOfC qual scope s.heap.objs.size f cd :: outer))) (envOfC qual scope s.heap.objs.size f cd :: outer) := PySem.W.funFrames_hide I.stack hin
 have c1 : ∀ b o, s1.heap.get? b = some o → b ∉ frs (envOfC qual scope s.heap.objs.size f cd :: outer) → ∃ o', (PySem.W.hideAll s1.heap (frs (envOfC qual scope s.heap.objs.size f cd :: outer))).get? b = some o' := fun b o e hb => ⟨o, PySem.W.hideAll_get _ e hb⟩
 have c2 : ∀ b, H1 b ≠ none → ∃ o', (PySem.W.hideAll s1.heap (frs (envOfC qual scope s.heap.objs.size f cd :: outer))).get? b = some o' := fun b n => by
  cases q : H1 b with
  | none => exact absurd q n
  | some o =>
   obtain ⟨ob, e⟩ := (I.hok b o q).here
   exact ⟨ob, PySem.W.hideAll_get _ e fun z => by rw [I.stkFree b z] at q; cases q⟩
 refine wpAny_leaves_madeW (A := A.deeper (envOfC qual scope s.heap.objs.size f cd)) (s := { s1 with heap := h' }) (env := envOfC qual scope s.heap.objs.size f cd) (outer := outer) I.ok.frames rfl (fun b o q => PySem.W.of_hideAll _ q) hfun hx fun h'' t fl tup tn up => ?_
 have I' : Inv (CW (CXE P w) P w K mg base N qual scope f cd A outer s H E) pins σ H1 { s1 with heap := h' } := I.kept (t' := s1.toks) hx.keeps
 have I2 := Inv.fly (h' := h'') I I' (fun b o q => hx.keeps b o (PySem.W.of_hideAll _ q)) fl.1 up c1 c2
 refine ⟨ea, cls, H1, rfl, I2.os, I2.bare, I2.base, I2.hok, ⟨_, _, fl, fun b o e hb => ?_, c2⟩, hE⟩
 obtain ⟨o1, a1⟩ := I.base.there b o e (fun z => absurd (show b ∈ ([] : List Addr) from z) (by simp))
 exact c1 b o1 a1 (I.notStack e hb)
theorem Gn : Eb (CXE P w) (CW (CXE P w) P w K mg base N qual scope f cd A outer s H E) E := fun pins σ H s e s' I h => by
 obtain ⟨ea, cls, H', rfl, arr, hE⟩ := Gv I h
 exact IZ arr hE
theorem Fun.okX {x qual : Str} {st : Stmt} {f : Addr} {fd : FuncData} {N ps : List Str} {k : Nat} {sp : Sp} (F : Fun K x qual st f fd) (S : AY N ps (AG st)) (len : ∀ vs H Q E, sp vs H Q E → vs.length = ps.length)
  (hbody : ∀ (cdv : Value) (A : Around) (outer : List Env) (s : Shared) (H : Hp) (vs : List V) (Q : VK) (E : XK), BV k (A.deeper (envOfC qual (AG st) s.heap.objs.size f cdv)) → sp vs H Q E →
   ∃ t, PSs (CW (CXE P w) P w K mg base N qual (AG st) f cdv A outer s H E) (Ax st) t ∧ t { nx := fun _ H' => Q .non H', rt := Q } (start N vs) H) : BL P w K mg base (CXE P w) (k + 1) f fd ps sp := by
 obtain ⟨oc, od, kV, doc, pm, an, cdv, ct, osl, rfl, lk, hcd⟩ := F.ex
 exact IE lk hcd S len fun A outer s H vs Q E hr hsp => hbody cdv A outer s H vs Q E hr hsp
end
abbrev bmV : List Value := [.type "ValueError", .type "Exception", .type "BaseException", .type "object"]
abbrev Ez (K : PySem.W.Frag) (C : Addr) : Prop := PySem.W.excIn K C bmV "ValueError.__new__" = true
theorem toArr {α : Type} {sl : Array α} {l : List α} (e : sl.toList = l) : sl = l.toArray := by rw [← e]
theorem Ez.rec {K : PySem.W.Frag} {C : Addr} (q : Ez K C) : ∃ (dd : Option Addr) (cd : ClassData) (bm : List Value) (k0 k1 k2 k3 k5 : Option Value),
  K.lookup C = some ⟨.type "type", dd, .cls cd, #[k0, k1, k2, k3, some (.builtin "ValueError.__new__"), k5]⟩ ∧ cd.mro = .ref C :: bm ∧ cd.hasDel = false ∧ PySem.W.tailIn K bmV bm = true ∧ PySem.W.nsOkIn K cd.ns = true ∧ PySem.W.nsIn K cd.ns "__init__" = some none := by
 simp only [Ez, PySem.W.excIn] at q
 repeat' split at q
 all_goals first | exact absurd q Bool.false_ne_true | skip
 next dd cd sl hK mr ll C' bm k0 k1 k2 k3 n k5 e1 e2 =>
  rw [toArr e2] at hK
  simp only [Bool.and_eq_true] at q
  obtain ⟨⟨⟨⟨⟨h1, h2⟩, h3⟩, h4⟩, h5⟩, h6⟩ := q
  have h1 : C' = C := by simpa using h1
  have h2 : n = "ValueError.__new__" := by simpa using h2
  subst h1 h2
  exact ⟨dd, cd, bm, k0, k1, k2, k3, k5, hK, e1, by simpa using h3, h4, h5, by simpa using h6⟩
theorem Ez.own {K : PySem.W.Frag} {C : Addr} {x : Str} {mg : Str → Option Value} {h : Heap} (q : Ez K C) (X : K.In h) (hm : mg x = some (.ref C)) : OwnCls x C bmV "ValueError.__new__" mg h := by
 obtain ⟨dd, cd, bm, k0, k1, k2, k3, k5, hK, e1, e2, e3, e4, e5⟩ := q.rec
 have ns : h.Ns cd.ns (h.nsMap cd.ns) := .of_isNs (PySem.W.isNs_of_in X e4)
 have no : h.nsMap cd.ns "__init__" = none := PySem.W.nsMap_none_of_in X e4 e5
 have tl := PySem.W.tail_of_in X e3
 rcases cd with ⟨a1, a2, a3, a4, a5, a6, a7, a8, a9, a10, a11⟩
 simp only at e1 e2
 subst e1 e2
 exact ⟨hm, bm, a4, a1, a5, a2, a6, a7, a8, a9, a10, dd, k0, k1, k2, k3, k5, _, X _ _ hK, ns, no, tl⟩
def IL (X : Cx) (E : XK) : Prop := ∀ (pins : List (Addr × Obj)) (σ : St) (H : Hp) (s : Shared) (h' : Heap) (ea : Addr) (cls : Value) (args : List Value), Inv X pins σ H s → Heap.MadeExcOf s.heap h' ea cls args → E cls none H → X.xe (.ref ea) { s with heap := h' }
theorem IJ {P : Program} {w : World} {K : PySem.W.Frag} {mg : Str → Option Value} {base : Heap} {N : List Str} {qual : Str} {scope : Scope} {f : Addr} {cd : Value} {A : Around} {outer : List Env} {s : Shared} {H : Hp} {E : XK} : IL (CW (CXE P w) P w K mg base N qual scope f cd A outer s H E) E := fun _ _ _ _ _ _ _ _ I hx hE => HZ I hx hE
section
variable {X : Cx} {E : XK} {x : Str} {C : Addr} {np cpos pos : Pos} {e : Expr} {es : List Expr} {t : TA}
def CS (C : Addr) (E : XK) (t : TA) : TS := fun _ σ H => t σ H fun vs H1 => vs.length ≤ sizeLine ∧ E (.ref C) none H1
theorem E9 (hp : IL X E) (hc : X.calm = true) (q : Ez X.K C) (hg : Gl X x) (hm : X.mg x = some (.ref C)) (ha : PA X (e :: es) t) (hdb : (x == ("__debug__" : Str)) = false := by decide)
  (he : starEach (e :: es) X.env = (false, eval e X.env) :: starEach es X.env := by rfl) (hpl : (backTo cpos (starEach es X.env)).any (·.1) = false := by rfl) :
  PS X (.Raise (some (.Call (.Name x np) (e :: es) [] cpos)) none pos) (CS C E t) := by
 intro pins s σ H D I h
 obtain ⟨tl, N, nm, q', bs, hdct, sn, sub, ab, col, dd, k0, k1, k2, k3, k5, mN, hC, hN, hni, T⟩ := (Ez.own q I.mod.kin hm).obj
 refine wpAny_Raise_call_subT (C := C) (nm := nm) (q := q') (N := N) (bs := bs) (bm := tl) (hdct := hdct) (sn := sn) (sub := sub) (ab := ab) (col := col) (dd := dd) (k0 := k0) (k1 := k1) (k2 := k2) (k3 := k3) (k5 := k5)
  PySem.F.excBase_ValueError (mN := mN) (T.hasType PySem.F.excBase_ValueError.hasBase) (I.ok.hd hc) (by rw [he]; show (false || (backTo cpos (starEach es X.env)).any (·.1)) = false; rw [hpl]; rfl) hni (Co I hg hm ⟨rfl, ?_⟩ hdb)
 have hs := ha cpos pins s σ H _ I h
 rw [he] at hs ⊢
 refine Calls.evalArgs_plain (thn hs fun us s1 ⟨vs, H1, I1, r, z, hE⟩ => ?_)
 exact ⟨rfl, by rw [← r.length]; exact z, I1.bk _ _ hC, hN.keeps I1.bk, T.keeps I1.bk, fun h' ea hx => hp pins σ H1 s1 h' ea (.ref C) us I1 hx hE⟩
end
def GA (X : Cx) (N : Value → St → Hp → Prop) : Prop := ∀ (pins : List (Addr × Obj)) (σ : St) (H : Hp) (s : Shared) (e : Value) (s' : Shared), Inv X pins σ H s → CXE X.prog X.w X.stack H s (fun cls _ H' => N cls σ H') e s' → X.xe e s'
section
variable {X : Cx} {k : Nat} {f C : Addr} {fd : FuncData} {ps : List Str} {sp : Sp} {dvs : List V} {ds : List Value} {N : Value → St → Hp → Prop} {x m : Str} {p pos apos : Pos} {e o : Expr} {es : List Expr} {ta : TE} {t : TA}
theorem Hu {pins : List (Addr × Obj)} {σ : St} {H : Hp} {s : Shared} {Q : VK} {us : List Value} {vs : List V} (F : BL X.prog X.w X.K X.mg X.base (CXE X.prog X.w) k f fd ps sp) (hr : BV k X.A) (hb : Binds X.K fd ps ds) (hd : AU dvs ds) (hx : GA X N)
  (I : Inv X pins σ H s) (r : AU vs us) (h : sp (vs ++ dvs) H Q (fun cls _ H' => N cls σ H')) : wpAny (model X.prog X.w) X.A (call (.ref f) us) (EP X pins σ Q) X.xe s := by
 have r2 : AU (vs ++ dvs) (us ++ ds) := r.append hd
 have hl : (us ++ ds).length = ps.length := by rw [← r2.length]; exact F.len _ _ _ _ h
 refine wpAny_call (codeAny_mono (F.run X.A X.stack s H ⟨us, []⟩ (us ++ ds) (vs ++ dvs) Q _ hr I.env0 (hb s us I.kIn hl) r2 h) fun r s' hq => ?_)
 cases r with
 | error e => exact hx pins σ H s e s' I hq
 | ok fl =>
  cases fl with
  | ret u => exact I.after hq
  | next => exact False.elim hq
  | brk => exact False.elim hq
  | cont => exact False.elim hq
def G0 (sp : Sp) (dvs : List V) (N : Value → St → Hp → Prop) (t : TA) : TE := fun σ H Q => t σ H fun vs H1 => sp (vs ++ dvs) H1 Q (fun cls _ H' => N cls σ H')
theorem Gw (F : BL X.prog X.w X.K X.mg X.base (CXE X.prog X.w) k f fd ps sp) (hr : BV k X.A) (hg : Gl X x) (hm : X.mg x = some (.ref f)) (hk : PySem.W.keepIn X.K (.ref f) = true) (hb : Binds X.K fd ps ds) (hd : AU dvs ds) (hx : GA X N)
  (ha : PA X (e :: es) t) (hdb : (x == ("__debug__" : Str)) = false := by decide) (he : starEach (e :: es) X.env = (false, eval e X.env) :: starEach es X.env := by rfl) (hpl : (backTo pos (starEach es X.env)).any (·.1) = false := by rfl) :
  PE X (.Call (.Name x p) (e :: es) [] pos) (G0 sp dvs N t) := by
 intro pins s σ H Q I h
 refine wpAny_Call_Name_kw (Co I hg hm ?_ hdb)
 refine PySem.W.callWith_K (h₀ := X.base) I.ok.mod.kin hk (thn (ha pos pins s σ H _ I h) fun us s1 ⟨vs, H1, I1, r, q⟩ => ⟨I1.kIn, ?_⟩) he hpl
 exact Hu F hr hb hd hx I1 r q
end
abbrev Cx.caught (X : Cx) (e : Value) (pn : List (Addr × Obj)) : Cx := { X with A := X.A.mark (some e), calm := false, pn := pn, xe := fun _ _ => False }
abbrev Cx.trying (X : Cx) (pn : List (Addr × Obj)) (E : Value → Shared → Prop) : Cx := { X with pn := pn, xe := E }
theorem Inv.caught {X : Cx} {pins : List (Addr × Obj)} {σ : St} {H : Hp} {s : Shared} (I : Inv X pins σ H s) (e : Value) : Inv (X.caught e (X.pn ++ pins)) [] σ H s :=
 ⟨⟨I.ok.mod, I.ok.kind, I.ok.glob, I.ok.blt, I.ok.above, I.ok.inj, I.ok.has, I.ok.cab, (fun z => nomatch z), I.ok.frames, I.ok.stk, I.ok.exf, I.ok.bs, I.ok.bsz, I.ok.noex, I.ok.exfs, I.ok.funs, I.ok.frf⟩, I.os, I.bare, I.base, I.loc, I.cell, I.free, I.freeC, fun p hp => I.pin p (by simpa using hp), I.hok, I.len⟩
theorem Inv.uncaught {X : Cx} {pins : List (Addr × Obj)} {σ : St} {H : Hp} {s : Shared} {e : Value} (ok : X.Ok) (I : Inv (X.caught e (X.pn ++ pins)) [] σ H s) : Inv X pins σ H s :=
 ⟨ok, I.os, I.bare, I.base, I.loc, I.cell, I.free, I.freeC, fun p hp => I.pin p (by simpa using hp), I.hok, I.len⟩
theorem Inv.trying {X : Cx} {pins : List (Addr × Obj)} {σ : St} {H : Hp} {s : Shared} (I : Inv X pins σ H s) (E : Value → Shared → Prop) : Inv (X.trying (X.pn ++ pins) E) [] σ H s :=
 ⟨⟨I.ok.mod, I.ok.kind, I.ok.glob, I.ok.blt, I.ok.above, I.ok.inj, I.ok.has, I.ok.cab, I.ok.hd, I.ok.frames, I.ok.stk, I.ok.exf, I.ok.bs, I.ok.bsz, I.ok.noex, I.ok.exfs, I.ok.funs, I.ok.frf⟩, I.os, I.bare, I.base, I.loc, I.cell, I.free, I.freeC, fun p hp => I.pin p (by simpa using hp), I.hok, I.len⟩
theorem Inv.tried {X : Cx} {pins more : List (Addr × Obj)} {σ : St} {H : Hp} {s : Shared} {E : Value → Shared → Prop} (ok : X.Ok) (I : Inv (X.trying (X.pn ++ pins) E) more σ H s) : Inv X pins σ H s :=
 ⟨ok, I.os, I.bare, I.base, I.loc, I.cell, I.free, I.freeC, fun p hp => I.pin p (List.mem_append_left _ hp), I.hok, I.len⟩
def tHs (K : PySem.W.Frag) : List (Value × TS) → Value → DF → St → Hp → Prop
 | [], _, _, _, _ => False
 | (c, th) :: r, cls, D, σ, H => ∃ b, PySem.W.exmOne K cls c = some b ∧ if b = true then th D σ H else tHs K r cls D σ H
inductive PHs (X : Cx) : List ExceptHandler → List (Value × TS) → Prop
 | nil : PHs X [] []
 | cons {x : Str} {c : Value} {np pos : Pos} {b₀ : Stmt} {suite : List Stmt} {th : TS} {hs : List ExceptHandler} {ths : List (Value × TS)} (hg : Gl X x) (hm : X.mg x = some c) (hd : (x == ("__debug__" : Str)) = false)
   (hb : ∀ e pn, PSs (X.caught e pn) (b₀ :: suite) th) (r : PHs X hs ths) : PHs X (.ExceptHandler (some (.Name x np)) none (b₀ :: suite) pos :: hs) ((c, th) :: ths)
section
variable {X : Cx} {pins : List (Addr × Obj)} {D : DF}
theorem SP.map {X Y : Cx} {pins pins' : List (Addr × Obj)} {D : DF} {f : Flow} {s : Shared} (k : ∀ σ H, Inv X pins σ H s → Inv Y pins' σ H s) (h : SP X pins D f s) : SP Y pins' D f s := by
 cases f with
 | next => obtain ⟨σ, H, I, q⟩ := h; exact ⟨σ, H, k _ _ I, q⟩
 | brk => obtain ⟨σ, H, I, q⟩ := h; exact ⟨σ, H, k _ _ I, q⟩
 | cont => obtain ⟨σ, H, I, q⟩ := h; exact ⟨σ, H, k _ _ I, q⟩
 | ret u => obtain ⟨v, σ, H, I, r, q⟩ := h; exact ⟨v, σ, H, k _ _ I, r, q⟩
theorem Df (hfr : X.env.frame = some X.env.locals) (hst : X.stack = X.env :: X.outer) {ea : Addr} {cls : Value} : ∀ {hs : List ExceptHandler} {ths : List (Value × TS)}, PHs X hs ths → ∀ {σ : St} {H : Hp} {s : Shared}, Arr X pins σ ea cls H s → tHs X.K ths cls D σ H →
  wpAny (model X.prog X.w) X.A (handleBy (.ref ea) X.env hs) (SP X pins D) X.xe s
 | _, _, .nil, _, _, _, _, h => h.elim
 | _, _, .cons (x := x) (c := c) (b₀ := b₀) (suite := suite) (th := th) hg hm hd hb r, σ, H, s, a, h => by
  obtain ⟨I, H1, s1, I1, B, a0, fl, c1, c2⟩ := a
  obtain ⟨b, hx, hq⟩ := h
  refine wpAny_handleBy_cons ?_ (by intro q; cases q)
  refine codeAny_handlers_test ?_
  have Ic := I.caught (.ref ea)
  refine Co (X := X.caught (.ref ea) (X.pn ++ pins)) Ic hg hm ?_ hd
  obtain ⟨ob, hob, hc⟩ := fl.there
  have LT : PySem.W.Looks (model X.prog X.w) s.heap (typeOf (.ref ea)) cls := by
   subst hc
   exact (PySem.W.Looks.ld hob).andThen .now
  refine (PySem.W.exm_one I.kIn LT hx).here ?_
  cases b with
  | false =>
   exact Df hfr hst r ⟨I, H1, s1, I1, B, a0, fl, c1, c2⟩ (by simpa using hq)
  | true =>
   rw [if_pos rfl] at hq
   refine codeAny_handlers_suite ?_
   refine lands_againW fl fun h6 fl6 up6 => ?_
   have I6 : Inv X pins σ H { s with heap := h6 } := Inv.fly I1 I fl.1 fl6.1 up6 c1 c2
   refine A2 (thn (hb (.ref ea) (X.pn ++ pins) [] _ σ H D (I6.caught _) hq) fun f s2 h2 => ?_)
   exact SP.map (fun _ _ J => J.uncaught I.ok) h2
def lookX (X : Cx) (pins : List (Addr × Obj)) (D : DF) (hs : List ExceptHandler) : Value → Shared → Prop := fun e s1 => wpAny (model X.prog X.w) X.A (noteFrame e X.env) (fun _ s2 => wpAny (model X.prog X.w) X.A (setFlight e none) (fun _ s3 =>
 wpAny (model X.prog X.w) X.A (handleBy e X.env hs) (SP X pins D) X.xe s3) X.xe s2) X.xe s1
def tTry (K : PySem.W.Frag) (tb : (Value → St → Hp → Prop) → TS) (ths : List (Value × TS)) : TS := fun D σ H => tb (fun cls σ' H' => tHs K ths cls D σ' H') D σ H
theorem JJ {body : List Stmt} {h₀ : ExceptHandler} {hs : List ExceptHandler} {ths : List (Value × TS)} {tb : (Value → St → Hp → Prop) → TS} {pos : Pos} (hfr : X.env.frame = some X.env.locals) (hst : X.stack = X.env :: X.outer)
  (hb : ∀ N pn xe, GA (X.trying pn xe) N → PSs (X.trying pn xe) body (tb N)) (hh : PHs X (h₀ :: hs) ths) : PS X (.Try body (h₀ :: hs) [] [] pos) (tTry X.K tb ths) := by
 intro pins s σ H D I h
 refine wpAny_Try_except ?_
 have pass : GA (X.trying (X.pn ++ pins) (lookX X pins D (h₀ :: hs))) (fun cls σ' H' => tHs X.K ths cls D σ' H') := fun pins' σ' H1 s1 e s' I' hx => by
  obtain ⟨ea, cls, H', rfl, a, hN⟩ := Gv I' hx
  obtain ⟨J, H2, s2, J2, B, a0, fl, c1, c2⟩ := a
  have J' : Inv X pins σ' H' s' := J.tried I.ok
  have J2' : Inv X pins σ' H2 s2 := J2.tried I.ok
  have fl : Heap.FlyingW B X.stack ea cls a0 s'.heap := fl
  have c1 : ∀ b o, s2.heap.get? b = some o → b ∉ frs X.stack → ∃ o', B.get? b = some o' := c1
  rw [hst] at fl
  refine wpAny_looks_onW (A := X.A) (by rw [I.ok.frames, hst]) hfr fl fun h4 held4 up4 => ?_
  refine wpAny_landsW held4 fun h5 fl5 up5 => ?_
  have up := up4.trans up5
  have I5 : Inv X pins σ' H' { s' with heap := h5 } := Inv.fly J2' J' fl.1 fl5.1 up c1 c2
  refine Df hfr hst hh ⟨I5, H2, s2, J2', B, a0, by rw [hst]; exact fl5, c1, c2⟩ hN
 refine wpAny_mono (hb _ _ _ pass [] s σ H D (I.trying _) h) (fun f s1 h1 => ?_) fun e s1 h1 => h1
 have h1 : SP X pins D f s1 := SP.map (fun _ _ J => J.tried I.ok) h1
 cases f with
 | next => exact wpAny_execs_nil h1
 | brk => exact h1
 | cont => exact h1
 | ret u => exact h1
end
end L2
set_option Elab.async false
set_option linter.all false
set_option maxRecDepth 100000
set_option maxHeartbeats 4000000
namespace L2
open PySem PySem.Spec PyProof.Rows
section
variable {X : Cx}
end
end L2
set_option Elab.async false
set_option linter.all false
set_option maxRecDepth 100000
set_option maxHeartbeats 4000000
namespace L2
open PySem
theorem len0 {α : Type} {us : List α} (h : us.length = 0) : us = [] := List.length_eq_zero_iff.mp h
theorem lenS {α : Type} {us : List α} {n : Nat} (h : us.length = n + 1) : ∃ a r, us = a :: r ∧ r.length = n := by
 cases us with
 | nil => cases h
 | cons a r => exact ⟨a, r, rfl, Nat.succ.inj h⟩
theorem Fe {α : Type} {us : List α} (h : us.length = 1) : ∃ a, us = [a] := by
 obtain ⟨a, r, rfl, h'⟩ := lenS h; cases len0 h'; exact ⟨a, rfl⟩
theorem FR {α : Type} {us : List α} (h : us.length = 2) : ∃ a b, us = [a, b] := by
 obtain ⟨a, r, rfl, h'⟩ := lenS h; obtain ⟨b, rfl⟩ := Fe h'; exact ⟨a, b, rfl⟩
end L2
namespace TG
open PySem L2
inductive Err where
 | nogate | taken | upside | bounds | full | deeds | nothing | badlist | few | size | badthrow | badrow
 deriving DecidableEq
end TG
set_option Elab.async false
set_option linter.all false
set_option maxRecDepth 100000
set_option maxHeartbeats 4000000
namespace L2
open PySem PySem.Spec PyProof.Rows
section
variable {prog : Program} {w : World} {A : Around} {E : Value → Shared → Prop} {s : Shared}
theorem EQ {it t : Addr} {items : Array Value} (hne : t ≠ it) : ∀ (n i : Nat) (s : Shared) (Q : List Value → Shared → Prop), s.heap.IsListIter it t i → s.heap.IsList t items → i + n ≤ items.size →
  (∀ h', h'.IsListIter it t (i + n) → Heap.SameBut it s.heap h' → Q ((items.toList.drop i).take n) { s with heap := h' }) → wpAny (model prog w) A (draw (.ref it) n) Q E s
 | 0, i, s, Q, hit, _, _, hQ => by
  show wpAny _ _ (pure []) Q E s
  exact wpAny_pure (by simpa using hQ s.heap hit (Heap.SameBut.refl ..))
 | n + 1, i, s, Q, hit, ht, hle, hQ => by
  have hlt : i < items.size := by omega
  show wpAny _ _ (pyNext (.ref it) >>= _) Q E s
  refine wpAny_bind (wpAny_pyNext_list_item hit ht (x := items[i]) (by simp [hlt]) fun h₁ hit₁ hs₁ => ?_)
  refine wpAny_bind (wpAny_holding (EQ hne n (i + 1) _ _ hit₁ (ht.at fun o e => (hs₁.2 t hne).trans e) (by omega) fun h₂ hit₂ hs₂ => wpAny_pure ?_))
  have hd : items.toList.drop i = items[i] :: items.toList.drop (i + 1) := by simp [List.drop_eq_getElem_cons, hlt]
  have := hQ h₂ (by rw [show i + (n + 1) = i + 1 + n by omega]; exact hit₂) (hs₁.trans hs₂)
  rw [hd, List.take_succ_cons] at this
  exact this
theorem DD {t : Addr} {items : Array Value} {Q : List Value → Shared → Prop} (hh : A.handled = none) (ht : s.heap.IsList t items)
  (hQ : ∀ h', Heap.ExtBut s.heap.objs.size s.heap h' → Q items.toList { s with heap := h' }) : wpAny (model prog w) A (unpackItems (.ref t) items.size none) Q E s := by
 have hlt : t ≠ s.heap.objs.size := by obtain ⟨o, ho, _⟩ := ht; exact Nat.ne_of_lt (Heap.lt_size ho)
 unfold unpackItems
 refine wpAny_bind ?_
 ·unfold notIterableAtAll
  refine wpAny_bind (wpAny_specialOf ht.typeIs slot_list_iter.lookup ?_)
  refine wpAny_pure ?_
  simp only [Bool.false_eq_true, if_false]
  refine wpAny_bind (wpAny_holding (wpAny_pyIter_list ht ?_))
  refine wpAny_bind (wpAny_holding (EQ hlt items.size 0 _ _ ⟨_, Heap.get?_push_size _ rfl, rfl, rfl⟩ (ht.at fun o e => Heap.get?_push_of_some _ e) (by omega) fun h₁ hit₁ hs₁ => ?_))
  have hall : List.take items.size (List.drop 0 items.toList) = items.toList := by
   rw [List.drop_zero]; exact List.take_of_length_le (by simp)
  rw [hall]
  rw [if_neg (by simp)]
  have ht₁ : h₁.IsList t items := ht.at fun o e => (hs₁.2 t hlt).trans (Heap.get?_push_of_some _ e)
  refine wpAny_bind (wpAny_holding (wpAny_pyNext_list_end hh hit₁ ht₁ (by simp) fun h₂ he₂ => ?_))
  simp only [Option.isSome_none, Bool.false_eq_true, if_false]
  refine wpAny_pure (hQ h₂ fun b o hb e => he₂ b o hb (hs₁.extBut b o hb (Heap.get?_push_of_some _ e)))
theorem Cp {env : Env} {elts : List Expr} {x1} {pos : Pos} {t : Addr} {items : Array Value} {Q : Unit → Shared → Prop} (hh : A.handled = none) (ht : s.heap.IsList t items)
  (hn : (assignEach elts env).length = items.size) (hstar : (assignEach elts env).findIdx? (·.1) = none)
  (h : ∀ h', Heap.ExtBut s.heap.objs.size s.heap h' → wpAny (model prog w) A (assignInOrder ((assignEach elts env).map (·.2)) items.toList) Q E { s with heap := h' }) :
  wpAny (model prog w) A (assign (.Tuple elts x1 pos) env (.ref t)) Q E s := by
 rw [assign_Tuple]
 refine wpAny_bind (wpAny_standAt ?_)
 unfold unpack
 rw [hn, hstar]
 exact wpAny_bind (wpAny_holding (DD hh ht h))
end
section
variable {X : Cx} {pos : Pos}
def D2 (K : PySem.W.Frag) (n : Nat) (t : TGs) : TG := fun v σ H Q => ∃ a xs, v = .ref a ∧ SqL K H a xs ∧ xs.length = n ∧ t xs σ H Q
theorem FW {es : List Expr} {k : Nat} {t : TGs} {n : Nat} (hc : X.calm = true) (h : PGs X es t)
  (hn : (assignEach es X.env).length = n := by rfl) (hst : (assignEach es X.env).findIdx? (·.1) = none := by rfl) : PG X (.Tuple es k pos) (D2 X.K n t) := by
 intro pins s σ H v u Q I r hw
 obtain ⟨a, xs, e1, hq, hl, hw⟩ := hw
 subst e1
 cases r
 obtain ⟨its, rv, ht, hz⟩ := I.list hq
 refine Cp (I.ok.hd hc) ht.isList (by simp [hn, ← hl, rv.length]) hst fun h' hx => ?_
 have I1 : Inv X pins σ H { s with heap := h' } := I.kept (t' := s.toks) fun b o e => hx b o (Nat.ne_of_lt (Heap.lt_size e)) e
 exact h pins _ σ H xs _ Q I1 (by simpa using rv) hw
def Bf : List V → Hp → VK → Prop := fun vs H Q => ∃ b more, vs = [.ref b] ∧ H b = some (.dK more) ∧ ∀ p H', H p = none → AE H H' → H' p = some (.dK more) → Q (.ref p) H'
end
end L2
namespace TG
open PySem L2
end TG
set_option Elab.async false
set_option linter.all false
set_option maxRecDepth 100000
set_option maxHeartbeats 4000000
namespace L2
open PySem PySem.Spec PyProof.Rows
section
variable {X : Cx}
def Cj : List V → Hp → VK → Prop := fun xs H Q => ∃ i j k, xs = [.int i, .int j, .int k] ∧ ∀ m, (∀ b, m ≤ b ↔ i ≤ b ∧ j ≤ b ∧ k ≤ b) → Q (.int m) H
end
end L2
namespace TG
open PySem L2
end TG
set_option Elab.async false
set_option linter.all false
set_option maxRecDepth 100000
set_option maxHeartbeats 4000000
namespace TG
open PySem PySem.W PySem.Calls L2
def Cz (tb : String → Option Builtin) (p : Program) (w : World) (n₀ : Nat) (ann : Option Value) : Nat → SharedT → Thread → Option SharedT
 | 0, _, _ => none
 | n + 1, s, t => match through t with
  | true => some s
  | false => match stepOk n₀ ann t with
   | false => none
   | true => match stepT (denote tb) p w s t with
    | some (s', t') => Cz tb p w n₀ ann n s' t'
    | none => none
theorem Dl {tb : String → Option Builtin} {p : Program} {w : World} {n₀ : Nat} {ann : Option Value} : ∀ {n : Nat} {s s' : SharedT} {t : Thread}, Cz tb p w n₀ ann n s t = some s' → topRun tb p w n₀ ann n s.abs t = some s'.abs
 | 0, _, _, _, h => by cases h
 | n + 1, s, s', t, h => by
  unfold Cz at h
  unfold topRun
  cases he : through t with
  | true => rw [he] at h; cases h; rfl
  | false =>
   rw [he] at h
   cases hk : stepOk n₀ ann t with
   | false => rw [hk] at h; cases h
   | true =>
    rw [hk] at h
    cases hs : stepT (denote tb) p w s t with
    | none => rw [hs] at h; cases h
    | some r => obtain ⟨s₂, t₂⟩ := r; rw [hs] at h; rw [stepT_spec hs]; exact Dl h
def Kof (as : List Addr) (h : Heap) : Frag := as.filterMap fun a => (h.get? a).map fun o => (a, o)
theorem I0 (as : List Addr) (h : Heap) : (Kof as h).In h := by
 intro a o e
 induction as with
 | nil => cases e
 | cons b r ih =>
  simp only [Kof, List.filterMap_cons] at e
  cases hb : h.get? b with
  | none => rw [hb] at e; exact ih e
  | some ob =>
   rw [hb] at e
   simp only [Option.map_some, List.lookup] at e
   split at e
   ·rename_i q; cases e; rw [beq_iff_eq.mp q]; exact hb
   ·exact ih e
def IU (t : BT) (n a : Nat) : Option Obj := match Nat.blt a n with
 | true => alive ((t.get a).getD default)
 | false => none
def HF (as : List Addr) (s : SharedT) : Frag := as.filterMap fun a => (IU s.tree s.n a).map fun o => (a, o)
theorem ID (t : BT) (n : Nat) (life : Life) (a : Nat) : (absHeap t n life).get? a = IU t n a := by
 unfold IU
 cases h : Nat.blt a n with
 | true =>
  have h' : a < n := by simpa [Nat.blt_eq] using h
  show _ = alive ((t.get a).getD default)
  unfold Heap.get?
  rw [absHeap_at, if_pos h']
  generalize (t.get a).getD default = o
  obtain ⟨c, d, dt, sl⟩ := o
  cases dt <;> rfl
 | false =>
  have h' : ¬ a < n := by intro q; rw [Nat.blt_eq.mpr q] at h; cases h
  exact abs_get_none h'
theorem HY (as : List Addr) (s : SharedT) : Kof as s.abs.heap = HF as s := by
 unfold Kof HF
 congr 1
 funext a
 show ((absHeap s.tree s.n s.life).get? a).map _ = _
 rw [ID]
def Go : Nat → BT → List Obj → BT
 | _, t, [] => t
 | i, t, o :: r => Go (i + 1) (t.ins i o) r
noncomputable def HH (P : Params) (os : OsState) : SharedT := ⟨Go 0 .nil (boot_heap P).objs.toList, 11, {}, #[], boot_drawn, boot_toks, os⟩
theorem GP (P : Params) (os : OsState) : (HH P os).abs = ⟨boot_heap P, #[], boot_drawn, boot_toks, os⟩ := by kernel_rfl
theorem GI (P : Params) : ((boot_heap P).isNs mainGlobals && (#[] : Array GenState).size == 0, (boot_heap P).objs.size, (boot_heap P).nsMap mainGlobals "__annotations__") = (true, 11, some (.ref 6)) := by kernel_rfl
noncomputable def Gz {β : Type} (p q : Program) (loose : List Str) (obs : SharedT → β) (P : Params) (s : SharedT) :=
 ((staticsOk (importedModules p.main.body) (boot_heap P) s.abs.heap && namesBound p s.abs.heap && gensDone s.abs && laidKept (boot_heap P) s.abs.heap), openSeen q loose (importedModules p.main.body) (fun _ => true) true s.abs, obs s)
noncomputable def DB {β : Type} (p q : Program) (loose : List Str) (obs : SharedT → β) (M : Nat) (w : World) (os : OsState) :=
 (Cz treeTable p w 11 (some (.ref 6)) M (HH w.params os) (topStub p)).map (Gz p q loose obs w.params)
noncomputable def HK {β : Type} (p : Program) (obs : SharedT → β) (M : Nat) (w : World) (os : OsState) :=
 (Cz treeTable p w 11 (some (.ref 6)) M (HH w.params os) (topStub p)).map obs
theorem Fk {β : Type} {p q : Program} {loose : List Str} {B : SharedT → β} {M : Nat} {w : World} {os : OsState} {v : β} (e1 : DB p q loose (fun _ => ()) M w os = some (true, openGood q loose, ())) (e2 : HK p B M w os = some v) : DB p q loose B M w os = some (true, openGood q loose, v) := by
 obtain ⟨s, r, l⟩ := Option.map_eq_some_iff.mp e1
 obtain ⟨s', r', l'⟩ := Option.map_eq_some_iff.mp e2
 obtain rfl : s = s' := Option.some.inj (r.symm.trans r')
 obtain ⟨l1, l2, -⟩ : _ ∧ _ ∧ _ := by simpa only [Gz, Prod.mk.injEq] using l
 unfold DB
 rw [r]
 exact congrArg some (Prod.ext l1 (Prod.ext l2 l'))
theorem Hs {p q : Program} {loose : List Str} {β : Type} {Yf : Shared → β} {obs : SharedT → β} {v : β} {N M : Nat}
  (e : opening p = plainProg p.main.scope.names) (hN : Nat.ble 600 N = true) (f : ∀ s, fenceModules? p s = some s) (le : Nat.ble M N = true) (hY : ∀ s : SharedT, Yf s.abs = obs s)
  (run : ∀ (w : World) (os : OsState), DB p q loose obs M w os = some (true, openGood q loose, v)) : LeftO p q loose (fun _ => true) Yf (fun _ => v) N := fun w => by
 have open_ := boot_open e hN f w
 obtain ⟨⟨h, gs, d, k, os⟩, e1, e2⟩ := Option.map_eq_some_iff.mp open_
 obtain ⟨rfl, rfl, rfl, rfl⟩ : h = boot_heap w.params ∧ gs = #[] ∧ d = boot_drawn ∧ k = boot_toks := by simpa using e2
 obtain ⟨z1, z2, z3⟩ : _ ∧ _ ∧ _ := by simpa only [Prod.mk.injEq] using GI w.params
 obtain ⟨sT, r0, l0⟩ := Option.map_eq_some_iff.mp (run w os)
 obtain ⟨l1, l2, l3⟩ : _ ∧ _ ∧ _ := by simpa only [Gz, Prod.mk.injEq] using l0
 have r1 := Dl r0
 rw [GP] at r1
 have r := topRun_mono (N - M) _ _ _ _ r1
 rw [show M + (N - M) = N by have := Nat.le_of_ble_eq_true le; omega] at r
 have t : topFrom treeTable p w N ⟨boot_heap w.params, #[], boot_drawn, boot_toks, os⟩ = some sT.abs := by
  unfold topFrom
  dsimp only
  rw [z1, z2, z3, r]
  show (match staticsOk (importedModules p.main.body) (boot_heap w.params) sT.abs.heap && namesBound p sT.abs.heap && gensDone sT.abs && laidKept (boot_heap w.params) sT.abs.heap with | true => _ | false => _) = _
  rw [l1]
 unfold openEnds
 rw [e1]
 show (topFrom treeTable p w N _).map _ = _
 rw [t]
 exact congrArg some (Prod.ext l2 ((hY sT).trans l3))
def El {β : Type} (as : List Addr) (obs : Frag → β) (v : β) (_ : World) (h : Heap) : Prop := ∃ K : Frag, K.In h ∧ obs K = v
theorem El.of {β : Type} {as : List Addr} {obs : Frag → β} {v : β} (w : World) (s : Shared) (e : obs (Kof as s.heap) = v) : El as obs v w s.heap := ⟨_, I0 _ _, e⟩
theorem El.keeps {β : Type} {as : List Addr} {obs : Frag → β} {v : β} (w : World) (h h' : Heap) (x : El as obs v w h) (k : ∀ b o, h.get? b = some o → h'.get? b = some o) : El as obs v w h' := x.imp fun _ z => ⟨z.1.keeps k, z.2⟩
theorem HL {l : PySem.W.OpenLaw} {n k : Nat} {q : Program} {loose : List Str} {XP : (Str → Option Value) → Heap → Prop} {β : Type} {as : List Addr} {obs : Frag → β} {v : β} {d : DefRec} {CX : CXT} {sp : Frag → Sp} {x : Str}
  (hn : l.most = some n) (hn2 : n ≤ sizeLine) (hdf : d.params.defaults = []) (hr : BV k callerA)
  (F : ∀ (w : World) (mg : Str → Option Value) (fa : Addr) (h : Heap) (K : Frag), obs K = v → K.In h → h.Ns mainGlobals mg → mg d.name = some (.ref fa) →
   ∃ fd : FuncData, (∀ (s : Shared) (u : Value), BindsTo s fd ⟨[u], []⟩ [(x, u)]) ∧
    ∀ base : Heap, K.In base → base.Ns mainGlobals mg → BL l.prog w K mg base CX k fa fd [x] (sp K))
  (hsp : ∀ (K : Frag) (H : Hp) (a : Addr) (ns : List Int), ns.length ≤ n → JL H → SqL K H a (ns.map V.int) → sp K [.ref a] H (fun v _ => v = .bl true) fun _ _ _ => False)
  (hCX : ∀ (H : Hp) (s : Shared) (e : Value) (s' : Shared), CX [] H s (fun _ _ _ => False) e s' → False) :
  PySem.W.WalkO q loose XP (El as obs v) l.row.toRowW d [] (fun f vs => PySem.call f vs) := by
 refine Att.attach_call hn hdf fun w s₀ s₁ mg mb fa o pm cd doc a vs ns G Y ho hd hcd hmg hobj hints hlen hg => ?_
 obtain ⟨K, KX, KO⟩ := Y
 obtain ⟨fd, hb, hF⟩ := F w mg fa _ K KO KX G.T.g hmg
 exact HJ KX G.T.g G.T.b G.T.builtins G.T.nolimit hg hobj hints (Nat.le_trans hlen hn2) hr hF hb (fun H hO hS => hsp K H a ns hlen hO hS) fun H e s' => hCX H s₁ e s'
abbrev Seen := Option (Str × Str × Arguments × List Stmt × Scope × Addr × List (Str × Addr) × Addr × Bool × List Int)
def IG : List Value → Option (List Int)
 | [] => some []
 | .int i _ :: r => (IG r).map (i :: ·)
 | _ => none
def dfl (K : Frag) : Value → Option (List Int)
 | .none => some []
 | .ref d => match K.lookup d with
  | some ⟨_, _, .seq vs _, _⟩ => match IG vs.toList with
   | some (i :: r) => some (i :: r)
   | _ => none
  | _ => none
 | _ => none
def IQ (K : Frag) (f : Addr) (qual : Str) : Seen := match K.lookup f with
 | some ⟨_, _, .func ⟨nm, q, ps, .stmts b, sc, g, cl, dV, _, _, _, _, cd, _, bi⟩, _⟩ => match dfl K dV with
  | some ds => some (nm, q, ps, b, sc, g, cl, bi, codeIn K cd qual && keepIn K (.ref f), ds)
  | none => none
 | _ => none
def B7 (K : Frag) (x : Str) : Seen := match nsIn K mainGlobals x with
 | some (some (.ref f)) => IQ K f x
 | _ => none
def Bu (x qual : Str) (st : Stmt) (ds : List Int) : Seen := some (x, qual, BQ st, Ax st, AG st, mainGlobals, [], builtinsNs, true, ds)
def IC (K : Frag) (c : Str) : Bool := match nsIn K mainGlobals c with
 | some (some (.ref C)) => excIn K C bmV "ValueError.__new__"
 | _ => false
def Ii (K : Frag) (a b : Str) : Option Bool := match nsIn K mainGlobals a, nsIn K mainGlobals b with
 | some (some (.ref A)), some (some (.ref B)) => exmOne K (.ref A) (.ref B)
 | _, _ => none
def Ig (K : Frag) (x : Str) : Option Int := match nsIn K mainGlobals x with
 | some (some (.int i _)) => some i
 | _ => none
def Iz (K : Frag) (x : Str) : Option Str := match nsIn K mainGlobals x with
 | some (some (.str i _)) => some i
 | _ => none
def DU (K : Frag) (x : Str) : Bool := match nsIn K mainGlobals x with
 | some none => true
 | _ => false
section
variable {K : Frag}
theorem Gh {v : Value} (e : dfl K v = some []) : v = .none := by
 unfold dfl at e
 split at e
 ·rfl
 ·repeat' split at e
  all_goals cases e
 ·cases e
theorem Hm {f : Addr} {x qual : Str} {st : Stmt} {ds : List Int} (e : IQ K f qual = Bu x qual st ds) : ∃ (oc : Value) (od : Option Addr) (sl : Array (Option Value)) (dV kV dc pm : Value) (an : Option Addr) (cd ct : Value),
  K.lookup f = some ⟨oc, od, .func (fnOf x qual (BQ st) (Ax st) (AG st) dV kV dc pm an cd ct), sl⟩ ∧ codeIn K cd qual = true ∧ keepIn K (.ref f) = true ∧ dfl K dV = some ds := by
 unfold IQ Bu at e
 split at e
 ·rename_i oc od nm q ps b sc g cl dV kV dc pm an cd ct bi sl hl
  split at e
  ·rename_i ds' hd
   simp only [Option.some.injEq, Prod.mk.injEq, Bool.and_eq_true] at e
   obtain ⟨rfl, rfl, rfl, rfl, rfl, rfl, rfl, rfl, ⟨h1, h2⟩, rfl⟩ := e
   exact ⟨oc, od, sl, dV, kV, dc, pm, an, cd, ct, hl, h1, h2, hd⟩
  ·cases e
 ·cases e
theorem Fs {x : Str} {st : Stmt} (e : B7 K x = Bu x x st []) : ∃ (f : Addr) (oc : Value) (od : Option Addr) (sl : Array (Option Value)) (kV dc pm : Value) (an : Option Addr) (cd ct : Value),
  nsIn K mainGlobals x = some (some (.ref f)) ∧ K.lookup f = some ⟨oc, od, .func (fnOf x x (BQ st) (Ax st) (AG st) .none kV dc pm an cd ct), sl⟩ ∧ codeIn K cd x = true ∧ keepIn K (.ref f) = true := by
 unfold B7 at e
 split at e
 ·rename_i f hf
  obtain ⟨oc, od, sl, dV, kV, dc, pm, an, cd, ct, h1, h2, h3, h4⟩ := Hm e
  cases Gh h4
  exact ⟨f, oc, od, sl, kV, dc, pm, an, cd, ct, hf, h1, h2, h3⟩
 ·cases e
theorem F2 {c : Str} (e : IC K c = true) : ∃ C : Addr, nsIn K mainGlobals c = some (some (.ref C)) ∧ excIn K C [.type "ValueError", .type "Exception", .type "BaseException", .type "object"] "ValueError.__new__" = true := by
 unfold IC at e
 split at e
 ·rename_i C hC
  exact ⟨C, hC, e⟩
 ·cases e
theorem Hb {a b : Str} {A B : Addr} {r : Bool} (ha : nsIn K mainGlobals a = some (some (.ref A))) (hb : nsIn K mainGlobals b = some (some (.ref B))) (e : Ii K a b = some r) : exmOne K (.ref A) (.ref B) = some r := by
 unfold Ii at e
 rw [ha, hb] at e
 exact e
theorem HU {x : Str} {i : Int} (e : Ig K x = some i) : ∃ t : Tok, nsIn K mainGlobals x = some (some (.int i t)) := by
 unfold Ig at e
 split at e
 ·rename_i j t h
  cases e
  exact ⟨t, h⟩
 ·cases e
theorem HQ {x y : Str} (e : Iz K x = some y) : ∃ t : Tok, nsIn K mainGlobals x = some (some (.str y t)) := by
 unfold Iz at e
 split at e
 ·rename_i j t h
  cases e
  exact ⟨t, h⟩
 ·cases e
theorem BD {x : Str} (e : DU K x = true) : nsIn K mainGlobals x = some none := by
 unfold DU at e
 split at e
 ·assumption
 ·cases e
end
end TG
namespace TG
open PySem PySem.W
theorem Ih {R : WRecords} {h : Heap} (e : R = []) : RecFacts R h := by
 subst e
 exact ⟨fun x hx => (nomatch hx), fun x hx => (nomatch hx), fun c c' a (hc : false = true) => (nomatch hc), fun c fs (hf : none = some fs) => (nomatch hf)⟩
end TG
set_option Elab.async false
set_option linter.all false
set_option maxRecDepth 100000
set_option maxHeartbeats 4000000
namespace TG
open PySem L2
end TG
namespace L2
open PySem
theorem Gx {K : PySem.W.Frag} {tb : (Value → St → Hp → Prop) → TS} {ths : List (Value × TS)} {D : DF} {σ : St} {H : Hp} (h : ∀ N : Value → St → Hp → Prop, (∀ cls σ' H', tHs K ths cls D σ' H' → N cls σ' H') → tb N D σ H) : tTry K tb ths D σ H := h _ fun _ _ _ z => z
end L2
namespace TG
open PySem L2
end TG
namespace TG
open PySem L2
section
variable {C D L b S P : Addr} {ow : List Addr} {gs : List G} {past : List (List G)} {H H' : Hp} {kvs : List (Key × V)} {xs : List V}
end
end TG
namespace L2
end L2
namespace TG
open PySem L2
end TG
set_option Elab.async false
set_option linter.all false
set_option maxRecDepth 100000
set_option maxHeartbeats 4000000
namespace L2
open PySem
end L2
namespace L2
end L2
namespace TG
open PySem L2
end TG
namespace L2
open PySem PySem.Spec PyProof.Rows
section
variable {X : Cx}
def Ch (K : PySem.W.Frag) : List V → Hp → VK → Prop := fun xs H Q => ∃ l, xs = [.ref l] ∧ ∃ ns : List Int, SqL K H l (ns.map V.int) ∧ ns.length < 4000 ∧
 ∀ (D : Addr) (H' : Hp) (S : Int → Bool) (n : Nat), H D = none → AE H H' → H' D = some (.set S n) → n ≤ ns.length → (n = ns.length ↔ ns.Nodup) → Q (.ref D) H'
def Cw : List V → Hp → VK → Prop := fun xs H Q => ∃ a, xs = [V.ref a] ∧ ∃ (S : Int → Bool) (n : Nat), H a = some (.set S n) ∧ Q (.int n) H
end
end L2
namespace TG
open PySem L2
end TG
namespace L2
open PySem
end L2
namespace L2
open PySem PySem.Spec PyProof.Rows
section
variable {X : Cx}
def Ct (K : PySem.W.Frag) : R2 := fun x y H Q => ∃ a b, x = .ref a ∧ y = .ref b ∧ ∃ ns : List Int, SqL K H a (ns.map V.int) ∧ ∃ ms : List Int, SqL K H b (ms.map V.int) ∧ Q (.bl (decide (ns = ms))) H
end
end L2
namespace TG
open PySem L2
end TG
namespace TG
end TG
namespace TG
open PySem L2
end TG
namespace TG
open PySem L2
end TG
namespace TG
open PySem L2
end TG
namespace TG
open PySem PySem.W L2
section
variable {K : Frag} {mg : Str → Option Value} {h : Heap}
theorem A4 {x : Str} {st : Stmt} {ps : List Str} (X : K.In h) (G : h.Ns mainGlobals mg) (e : B7 K x = Bu x x st [])
  (b : ∀ (kV doc pm : Value) (an : Option Addr) (cdv ct : Value) (us : List Value), us.length = ps.length → bindArgs (fnOf x x (BQ st) (Ax st) (AG st) .none kV doc pm an cdv ct) ⟨us, []⟩ = pure (ps.zip us)) : ∃ f fd, D K mg x st ps f fd := by
 obtain ⟨f, oc, od, sl, kV, dc, pm, an, cd, ct, a, l, c, k⟩ := Fs e
 exact ⟨f, _, Eu l c k, mg_of X G a, (Eu l c k).binds b⟩
end
end TG
namespace TG
open PySem L2
end TG
set_option Elab.async false
set_option linter.all false
set_option maxRecDepth 100000
namespace L2
open PySem PySem.Spec PyProof.Rows
section
variable {prog : Program} {w : World} {A : Around} {R : Result → Shared → Prop} {I : Addr} {fp wr : List Addr} {G : Array GenState → Array GenState → Prop} {n : Nat} {P : Nat → Value → Prop} {St : Nat → Shared → Prop}
end
section
variable {X : Cx}
end
end L2
namespace TG
open PySem L2
end TG
set_option Elab.async false
set_option linter.all false
set_option maxRecDepth 100000
set_option maxHeartbeats 4000000
namespace L2
open PySem PySem.Spec PyProof.Rows
section
variable {M : Model} {A : Around} {E : Value → Shared → Prop} {s : Shared} {B : Heap} {l : List Env} {ea : Addr} {kl a0 fl : Value}
end
section
variable {P : Program} {w : World} {K : PySem.W.Frag} {mg : Str → Option Value} {base : Heap} {N : List Str} {qual : Str} {scope : Scope} {f : Addr} {cd : Value} {A : Around} {outer : List Env} {s0 : Shared} {H0 : Hp} {E : XK}
 {pins pins' : List (Addr × Obj)} {σ σ' : St} {H H1 : Hp} {s s1 s' : Shared} {sc : Scope} {x : Str} {caps : List Str} {ix : List Nat}
end
section
variable {X : Cx} {pins : List (Addr × Obj)} {σ : St} {H : Hp} {s : Shared} {sc : Scope} {x : Str} {caps : List Str} {ix : List Nat}
end
section
variable {P : Program} {w : World} {K : PySem.W.Frag} {mg : Str → Option Value} {base : Heap} {N : List Str} {qual : Str} {scope : Scope} {f : Addr} {cd : Value} {A : Around} {outer : List Env} {s0 : Shared} {H0 : Hp} {E : XK}
 {sc : Scope} {x : Str} {caps : List Str} {ix : List Nat}
end
section
variable {X : Cx}
end
end L2
set_option Elab.async false
set_option linter.all false
set_option maxRecDepth 100000
set_option maxHeartbeats 4000000
namespace TG
open PySem L2
end TG
set_option maxRecDepth 100000
set_option maxHeartbeats 4000000
namespace LM
open PySem PySem.Spec PySem.Calls PyProof.Rows PySem.W L2
section
variable {prog : Program} {w : World} {A : Around} {E : Value → Shared → Prop} {s : Shared}
end
section
variable {X : Cx} {pins : List (Addr × Obj)} {σ : L2.St} {H : Hp} {s : Shared} {h' : Heap}
end
section
variable {X : Cx}
end
end LM
namespace TG
open PySem L2
end TG
set_option Elab.async false
set_option linter.all false
set_option maxRecDepth 100000
set_option maxHeartbeats 4000000
namespace L2
open PySem PySem.Spec PyProof.Rows
section
variable {X : Cx}
end
end L2
namespace TG
open PySem L2
section
variable {T : Addr} {H H' : Hp} {pos : Pos} {qual : Str}
end
end TG
namespace TG
open PySem L2
end TG
namespace L2
theorem GC {c : TT} {A B : TS} {D : DF} {σ : St} {H : Hp} (h : ∀ a b : St → Hp → Prop, (∀ σ' H', A D σ' H' → a σ' H') → (∀ σ' H', B D σ' H' → b σ' H') → Ed c (fun _ => a) (fun _ => b) D σ H) : Ed c A B D σ H := h _ _ (fun _ _ z => z) fun _ _ z => z
end L2
set_option Elab.async false
set_option linter.all false
set_option maxRecDepth 100000
set_option maxHeartbeats 4000000
namespace L2
open PySem PySem.Spec PyProof.Rows
section
variable {X : Cx}
theorem D7 : C3 X (.type "int") (fun xs H Q => ∃ x n, xs = [.str x] ∧ PySem.intText? x = some n ∧ x.length ≤ 640 ∧ Q (.int n) H) := by
 intro pins s σ H xs us Q I r h
 obtain ⟨x, n, rfl, hn, hl, q⟩ := h
 obtain ⟨u, rfl, t, rfl⟩ := vals1 r
 exact PySem.W.KIN.call_text hn hl ⟨.int n, H, I.tok _, ⟨_, rfl⟩, q⟩
def Ei : V → List V → Hp → VK → Prop := fun x vs H Q => ∃ a b, x = .str a ∧ vs = [.str b] ∧ Q (.bl (decide (0 + b.length ≤ a.length) && Builtin.Str.subAt a b 0)) H
theorem EC : MtR X "str.startswith" Ei := by
 intro pins s σ H x vs v us Q I rx rv h
 obtain ⟨a, b, rfl, rfl, q⟩ := h
 obtain ⟨t, rfl⟩ := rx
 obtain ⟨u, rfl, t', rfl⟩ := vals1 rv
 refine call_meets F.slot_str_startswith (typeIs_str _ _ _) F.entry_str_startswith (F.args_str_startswith_2 _ _) (gives_str_startswith a b t t').meets ?_
 exact ⟨.bl _, H, I, rfl, q⟩
def JH : V → Option Int → Option Int → Hp → VK → Prop := fun x lo hi H Q => ∃ a, x = .str a ∧ a.length ≤ sizeLine ∧ Q (.str (Txt.slice a lo hi)) H
theorem Im : SlR X JH := by
 intro pins s σ H x v vl vu lo hi sl Q I rx hs pl pu h
 obtain ⟨a, rfl, hz, q⟩ := h
 obtain ⟨t, rfl⟩ := rx
 have part : ∀ {v : Value} {o : Option Int}, IsPart v o → ∃ z : Option (Int × Tok), v = partValue z ∧ z.map (·.1) = o := fun h => by
  cases h with
  | none => exact ⟨none, rfl, rfl⟩
  | int i t => exact ⟨some (i, t), rfl, rfl⟩
 obtain ⟨zl, rfl, el⟩ := part pl
 obtain ⟨zu, rfl, eu⟩ := part pu
 subst el eu
 refine ⟨"str", _, F.slot_str_getitem.lookup, typeIs_str _ _ _, wpAny_getItem_str_slice (l := zl) (u := zu) (st := none) hs rfl (post_val_or_str ⟨Nat.le_trans (Txt.slice_le a _ _) hz, fun t' k => ?_⟩)⟩
 exact ⟨.str _, H, I.tok _, ⟨_, rfl⟩, q⟩
end
def sg1 (x : Str) (i : Nat) : V := .str ⟨#[x.cps.getD i 0]⟩
def Its (x : Str) : It := ⟨fun i _ => i < x.cps.size, fun i H v H' => H' = H ∧ v = sg1 x i, fun i _ => x.cps.size ≤ i⟩
theorem Gf {P : Program} {w : World} {K : PySem.W.Frag} {tg : Expr} (x : Str) (it : Addr) : G5 P w K tg (Its x) [it] it (fun i h => ∃ t, h.IsStrIter it "str_ascii_iterator" x t i) where
 mem := by simp
 obj := fun i h ⟨t, o, e, c, d⟩ b hb => by
  have z : b = it := by simpa using hb
  rw [z]
  exact ⟨o, e, fun v y => by rw [d] at y; cases y⟩
 keep := fun i h h' ⟨t, o, e, c, d⟩ k => ⟨t, o, k it (by simp) o e, c, d⟩
 item := by
  intro X hP hw hK hc i pins s σ H E I hf st hg
  subst hP hw hK
  obtain ⟨t, st⟩ := st
  have hg : i < x.cps.size := hg
  obtain ⟨f0, f1, f2, f3, f4, f5⟩ := hf it (by simp)
  have hx : x.cps[i]? = some (x.cps.getD i 0) := by rw [Array.getD_eq_getD_getElem?, Array.getElem?_eq_getElem hg]; rfl
  refine wpAny_pyNext_ascii_item st hx fun h2 st2 sb => ?_
  have I1 : Inv X pins σ H { s with heap := h2, toks := s.toks + 1 } := I.turned (fun b o hb e => (sb.2 b hb).trans e) f0 f1 f3 f4 f5
  obtain ⟨o, e, c, d⟩ := id st2
  exact ⟨_, rfl, G6 (s := { s with heap := h2, toks := s.toks + 1 }) e c d (by decide) ⟨sg1 x i, H, I1, ⟨_, rfl⟩, ⟨rfl, rfl⟩, ⟨t, st2⟩, fun b hb => (hf b hb).1⟩⟩
 done := by
  intro X hP hw hK hc i pins s σ H E I hf st hg
  subst hP hw hK
  obtain ⟨t, st⟩ := st
  have hg : x.cps.size ≤ i := hg
  obtain ⟨f0, f1, f2, f3, f4, f5⟩ := hf it (by simp)
  exact wpAny_pyNext_ascii_end (I.ok.hd hc) st (Array.getElem?_eq_none hg) fun h2 eb => ⟨rfl, I.turned (t' := s.toks) (fun b o hb e => eb b o hb e) f0 f1 f3 f4 f5⟩
 self := fun _ _ _ _ _ ⟨t, st⟩ h => wpAny_pyIter_striter_ascii st h
section
variable {X : Cx} {tg : Expr}
def iStr (tl : TE) : TI := fun σ H R => tl σ H fun v H1 => ∃ x, v = .str x ∧ x.cps.all (· < 128) = true ∧ R (Its x) H1
theorem Ij {l : Expr} {tl : TE} (hl : PE X l tl) : PI X tg l (iStr tl) := by
 intro pins s σ H R I h
 refine thn (hl pins s σ H _ I h) fun v s1 ⟨y, H1, I1, r1, q1⟩ => ?_
 obtain ⟨x, e, asc, q⟩ := q1
 subst e
 obtain ⟨t, rfl⟩ := r1
 refine wpAny_pyIter_ascii asc ?_
 refine ⟨s1.heap.objs.size, [s1.heap.objs.size], _, _, H1, rfl, I1.kept (t' := s1.toks) fun b o e => Heap.get?_push_of_some _ e, Gf x _, ⟨t, _, Heap.get?_push_size _ rfl, rfl, rfl⟩, fun b hb => ?_, q⟩
 have e : b = s1.heap.objs.size := by simpa using hb
 rw [e]
 exact I1.fpOk (Nat.le_refl _) (I1.hok.fresh (Nat.le_refl _))
end
theorem HE {te : TE} {caps : St} {x : Str} {D : Addr} {H1 : Hp} {Q : Hp → Prop} (Pv : Nat → List V → Hp → Prop) (h0 : Pv 0 [] (upd H1 D (.lst [])))
  (hs : ∀ i ys H, i < x.cps.size → ys.length = i → Pv i ys H → te (some (sg1 x i) :: caps) H (EO x.cps.size i ys D Pv))
  (hd : ∀ ys H, ys.length = x.cps.size → Pv x.cps.size ys H → Q H) : Db te Bp caps (Its x) D H1 Q := by
 refine ⟨fun i m ys H => m = x.cps.size - i ∧ i ≤ x.cps.size ∧ ys.length = i ∧ Pv i ys H, ⟨_, rfl, Nat.zero_le _, rfl, h0⟩, ?_⟩
 rintro i m ys H ⟨rfl, hi, hl, p⟩
 by_cases hlt : i < x.cps.size
 ·refine .inr ⟨hlt, fun v H' y => ?_⟩
  obtain ⟨e1, e2⟩ := y
  subst e1 e2
  unfold Bp
  dsimp only
  rw [if_pos rfl]
  exact hs i ys _ hlt hl p
 ·have e : i = x.cps.size := by omega
  subst e
  exact .inl ⟨Nat.le_refl _, hd ys H hl p⟩
end L2
set_option Elab.async false
set_option linter.all false
set_option maxRecDepth 100000
set_option maxHeartbeats 4000000
namespace L2
open PySem PySem.Spec PyProof.Rows
abbrev tx (l : List Nat) : Str := ⟨l.toArray⟩
theorem CV (a b : List Nat) : tx a ++ tx b = tx (a ++ b) := by
 show (⟨a.toArray ++ b.toArray⟩ : Str) = _
 rw [List.append_toArray]
theorem AO (l : List Nat) : (tx l).length = l.length := List.size_toArray ..
theorem Ej {a b : List Nat} : tx a = tx b ↔ a = b := ⟨fun h => by injection h with h; injection h, fun h => by rw [h]⟩
theorem IK (x : Str) : x = tx x.cps.toList := by cases x; rfl
theorem GG (x : Str) {a b : Nat} (h : a ≤ b) (hb : b ≤ x.length) : Txt.slice x (some (a : Int)) (some (b : Int)) = tx ((x.cps.toList.drop a).take (b - a)) := StrLaws.sliceText_nat x h hb
theorem sl_ix {lo : Option Int} {n i : Nat} : Builtin.Str.strSliceIndices lo none 1 n = Builtin.Str.strSliceIndices lo (some (n : Int)) 1 n := by
 unfold Builtin.Str.strSliceIndices
 dsimp only
 simp only [if_pos (show (1 : Int) > 0 by decide)]
 rw [if_neg (by omega), show max (0 : Int) (min (n : Int) n) = n by omega]
theorem JG {hi : Option Int} {n j : Nat} : Builtin.Str.strSliceIndices (some (j : Int)) hi 1 n = Builtin.Str.strSliceIndices (some ((min j n : Nat) : Int)) hi 1 n := by
 unfold Builtin.Str.strSliceIndices
 dsimp only
 simp only [if_pos (show (1 : Int) > 0 by decide)]
 rw [if_neg (show ¬ (j : Int) < 0 by omega), if_neg (show ¬ ((min j n : Nat) : Int) < 0 by omega), show max (0 : Int) (min ((min j n : Nat) : Int) n) = max (0 : Int) (min (j : Int) n) by omega]
theorem Fc (l : List Nat) (i : Nat) : Txt.slice (tx l) (some (i : Int)) none = tx (l.drop i) := by
 have h : Txt.slice (tx l) (some (i : Int)) none = Txt.slice (tx l) (some ((min i (tx l).length : Nat) : Int)) (some (((tx l).length : Nat) : Int)) := by
  unfold Txt.slice
  rw [sl_ix (i := 0), JG]
 rw [h, GG _ (Nat.min_le_right ..) (Nat.le_refl _), AO]
 refine Ej.mpr ?_
 show List.take (l.length - min i l.length) (List.drop (min i l.length) l) = _
 by_cases hi : i ≤ l.length
 ·rw [Nat.min_eq_left hi, List.take_of_length_le (by rw [List.length_drop]; omega)]
 ·rw [Nat.min_eq_right (by omega), List.drop_eq_nil_of_le (Nat.le_refl _), List.drop_eq_nil_of_le (by omega), List.take_nil]
def Au (n : Nat) : List Nat := (Nat.toDigits 10 n).map Char.toNat
def dec (i : Int) : List Nat := if i < 0 then 45 :: Au i.natAbs else Au i.natAbs
theorem HR (n : Nat) : Str.ofString (toString n) = tx (Au n) := by
 show Str.ofString (Nat.repr n) = _
 rw [Nat.repr_eq_ofList_toDigits, W.Fast.ofString_ofList]
 rfl
theorem An (i : Int) : Str.ofString (toString i) = tx (dec i) := by
 cases i with
 | ofNat n =>
  show Str.ofString (toString n) = _
  rw [HR]
  rfl
 | negSucc n =>
  show Str.ofString ("-" ++ toString (n + 1)) = _
  have : ("-" ++ toString (n + 1) : String) = String.ofList ('-' :: Nat.toDigits 10 (n + 1)) := by
   show "-" ++ Nat.repr (n + 1) = _
   rw [Nat.repr_eq_ofList_toDigits, ← String.ofList_append]
   rfl
  have e : dec (.negSucc n) = 45 :: Au (n + 1) := if_pos (Int.negSucc_lt_zero n)
  rw [this, W.Fast.ofString_ofList, e]
  rfl
theorem Bj {n : Nat} (h : n < 10) : Au n = [48 + n] := by
 unfold Au
 rw [Nat.toDigits_of_lt_base h, List.map_cons, Nat.toNat_digitChar_of_lt_ten h]
 rfl
theorem B2 {n : Nat} (h : 10 ≤ n) : Au n = Au (n / 10) ++ [48 + n % 10] := by
 unfold Au
 rw [Nat.toDigits_of_base_le (by decide) h, List.map_append, List.map_cons, Nat.toNat_digitChar_of_lt_ten (Nat.mod_lt _ (by decide))]
 rfl
theorem A1 (n : Nat) : NumText.AllDigits (Au n) := by
 induction n using Nat.strongRecOn with
 | _ n ih =>
  by_cases h : n < 10
  ·rw [Bj h]
   intro c hc
   rw [List.mem_singleton.mp hc]
   omega
  ·rw [B2 (by omega)]
   intro c hc
   rcases List.mem_append.mp hc with z | z
   ·exact ih (n / 10) (by omega) c z
   ·rw [List.mem_singleton.mp z]
    omega
theorem Cq (n : Nat) : NumText.digitsVal (Au n) = n := by
 induction n using Nat.strongRecOn with
 | _ n ih =>
  by_cases h : n < 10
  ·rw [Bj h]
   show 0 * 10 + (48 + n - 48) = n
   omega
  ·rw [B2 (by omega)]
   have := ih (n / 10) (by omega)
   unfold NumText.digitsVal at this ⊢
   rw [List.foldl_append, this]
   show n / 10 * 10 + (48 + n % 10 - 48) = n
   omega
theorem Hy (n : Nat) : Au n ≠ [] := by
 by_cases h : n < 10
 ·rw [Bj h]; simp
 ·rw [B2 (by omega)]; simp
theorem EJ {n : Nat} (h : n ≠ 0) : ∃ c r, Au n = c :: r ∧ 49 ≤ c ∧ c ≤ 57 := by
 induction n using Nat.strongRecOn with
 | _ n ih =>
  by_cases h1 : n < 10
  ·exact ⟨_, _, Bj h1, by omega, by omega⟩
  ·obtain ⟨c, r, e, h2, h3⟩ := ih (n / 10) (by omega) (by omega)
   exact ⟨c, r ++ [48 + n % 10], by rw [B2 (by omega), e]; rfl, h2, h3⟩
theorem Di {n k : Nat} (hk : 0 < k) : (Au n).length ≤ k ↔ n < 10 ^ k := by
 unfold Au
 rw [List.length_map]
 exact Nat.length_toDigits_le_iff (by decide) hk
theorem C8 (i : Int) : ∀ c ∈ dec i, c = 45 ∨ 48 ≤ c ∧ c ≤ 57 := fun c hc => by
 unfold dec at hc
 split at hc
 ·rcases List.mem_cons.mp hc with z | z
  ·exact .inl z
  ·exact .inr (A1 _ c z)
 ·exact .inr (A1 _ c hc)
theorem HN (i : Int) : dec i ≠ [] := by
 unfold dec
 split
 ·simp
 ·exact Hy _
theorem Am {i : Int} {k : Nat} (hk : 0 < k) (h : i.natAbs < 10 ^ k) : (dec i).length ≤ k + 1 := by
 have := (Di hk).mpr h
 unfold dec
 split
 ·rw [List.length_cons]; omega
 ·omega
theorem FF {a b : Nat} (h : Au a = Au b) : a = b := by rw [← Cq a, h, Cq]
theorem GD {a b : Int} (h : dec a = dec b) : a = b := by
 have nm : ∀ n (r : List Nat), Au n ≠ 45 :: r := fun n r z => by
  have := A1 n 45 (by rw [z]; exact List.mem_cons_self)
  omega
 unfold dec at h
 by_cases ha : a < 0
 ·rw [if_pos ha] at h
  by_cases hb : b < 0
  ·rw [if_pos hb] at h
   have := FF (List.cons.inj h).2
   omega
  ·rw [if_neg hb] at h
   exact absurd h.symm (nm _ _)
 ·rw [if_neg ha] at h
  by_cases hb : b < 0
  ·rw [if_pos hb] at h
   exact absurd h (nm _ _)
  ·rw [if_neg hb] at h
   have := FF h
   omega
def DI (l : List Nat) : Bool := l.head? == some 45
def bare (l : List Nat) : List Nat := if DI l then l.drop 1 else l
def rdN (l : List Nat) : Option Int :=
 if l = [48] then some 0
 else if 1 ≤ (bare l).length ∧ (bare l).length ≤ 9 ∧ (∀ c ∈ bare l, 48 ≤ c ∧ c ≤ 57) ∧ (bare l).head? ≠ some 48 then some (if DI l then -(NumText.digitsVal (bare l) : Int) else NumText.digitsVal (bare l))
 else none
theorem Et {i : Int} (h : i.natAbs ≤ 999999999) : rdN (dec i) = some i := by
 unfold rdN
 by_cases h0 : i = 0
 ·rw [h0]; rfl
 have hn : i.natAbs ≠ 0 := by omega
 obtain ⟨c, r, e, h1, h2⟩ := EJ hn
 have hl : (Au i.natAbs).length ≤ 9 := (Di (by decide)).mpr (by omega)
 have hd : dec i ≠ [48] := fun z => by
  have : dec i = dec 0 := z
  exact h0 (GD this)
 rw [if_neg hd]
 by_cases hi : i < 0
 ·have ed : dec i = 45 :: Au i.natAbs := if_pos hi
  have eb : bare (dec i) = Au i.natAbs := by rw [ed]; rfl
  have en : DI (dec i) = true := by rw [ed]; rfl
  rw [eb, if_pos ⟨by rw [e]; simp, hl, A1 _, by rw [e]; simp; omega⟩, if_pos en, Cq]
  congr 1
  omega
 ·have ed : dec i = Au i.natAbs := if_neg hi
  have en : DI (dec i) = false := by
   rw [ed, e]
   show (some c == some 45) = false
   simp
   omega
  have eb : bare (dec i) = Au i.natAbs := by unfold bare; rw [en, if_neg (by decide), ed]
  rw [eb, if_pos ⟨by rw [e]; simp, hl, A1 _, by rw [e]; simp; omega⟩, en, if_neg (by decide), Cq]
  congr 1
  omega
theorem Hj {i : Int} (h : 999999999 < i.natAbs) : rdN (dec i) = none := by
 unfold rdN
 have hn : i.natAbs ≠ 0 := by omega
 obtain ⟨c, r, e, h1, h2⟩ := EJ hn
 have hl : ¬ (Au i.natAbs).length ≤ 9 := fun z => by
  have := (Di (by decide)).mp z
  omega
 have hd : dec i ≠ [48] := fun z => by
  have : dec i = dec 0 := z
  have := GD this
  omega
 have eb : bare (dec i) = Au i.natAbs := by
  by_cases hi : i < 0
  ·have ed : dec i = 45 :: Au i.natAbs := if_pos hi
   rw [ed]; rfl
  ·have ed : dec i = Au i.natAbs := if_neg hi
   have en : DI (dec i) = false := by
    rw [ed, e]
    show (some c == some 45) = false
    simp
    omega
   unfold bare
   rw [en, if_neg (by decide), ed]
 rw [if_neg hd, eb, if_neg (fun z => hl z.2.1)]
theorem Dh (l : List Nat) (c : Nat) : (decide (0 + (tx [c]).length ≤ (tx l).length) && Builtin.Str.subAt (tx l) (tx [c]) 0) = (l.head? == some c) := by
 cases l with
 | nil => rfl
 | cons a r =>
  have h : Builtin.Str.subAt (tx (a :: r)) (tx [c]) 0 = (a == c) := by
   unfold Builtin.Str.subAt
   have e : ((tx (a :: r)).cps.extract 0 (0 + (tx [c]).length)) = #[a] := by
    apply Array.toList_inj.mp
    rw [Array.toList_extract]
    rfl
   rw [e]
   by_cases z : a = c
   ·subst z; simp
   ·rw [show (a == c) = false by simpa using z]
    simpa using z
  rw [h, decide_eq_true (by rw [AO, AO]; simp), Bool.true_and]
  show (a == c) = (some a == some c)
  simp
theorem Ie (l : List Nat) (c : Nat) : (!(Builtin.Str.occurrences (tx l) (tx [c]) 0 (tx l).length 1).isEmpty) = decide (c ∈ l) := StrLaws.found_one (tx l) c
def Ag (c : Nat) : List Nat → List (List Nat)
 | [] => [[]]
 | a :: r => if a = c then [] :: Ag c r else match Ag c r with
  | [] => [[a]]
  | p :: ps => (a :: p) :: ps
def C4 (s : List Nat) : List (List Nat) → List Nat
 | [] => []
 | [y] => y
 | y :: z :: ys => y ++ (s ++ C4 s (z :: ys))
theorem DX {s y : List Nat} {ys : List (List Nat)} (h : ys ≠ []) : C4 s (y :: ys) = y ++ (s ++ C4 s ys) := by
 cases ys with
 | nil => exact absurd rfl h
 | cons z r => rfl
theorem Eh (c : Nat) (l : List Nat) : Ag c l ≠ [] := by
 cases l with
 | nil => simp [Ag]
 | cons a r =>
  unfold Ag
  split
  ·simp
  ·split <;> simp
theorem B4 {c : Nat} : ∀ {l : List Nat}, c ∉ l → Ag c l = [l]
 | [], _ => rfl
 | a :: r, h => by
  have ha : a ≠ c := fun z => h (by rw [z]; exact List.mem_cons_self)
  have hr := B4 (l := r) fun z => h (List.mem_cons_of_mem _ z)
  unfold Ag
  rw [if_neg ha, hr]
theorem Bt {c : Nat} : ∀ {p l : List Nat}, c ∉ p → Ag c (p ++ c :: l) = p :: Ag c l
 | [], l, _ => by
  rw [List.nil_append]
  conv => lhs; unfold Ag
  rw [if_pos rfl]
 | a :: r, l, h => by
  have ha : a ≠ c := fun z => h (by rw [z]; exact List.mem_cons_self)
  have hr := Bt (p := r) (l := l) fun z => h (List.mem_cons_of_mem _ z)
  rw [List.cons_append]
  conv => lhs; unfold Ag
  rw [if_neg ha, hr]
theorem FE {c : Nat} : ∀ {ps : List (List Nat)}, ps ≠ [] → (∀ p ∈ ps, c ∉ p) → Ag c (C4 [c] ps) = ps
 | [], h, _ => absurd rfl h
 | [p], _, f => B4 (f p (by simp))
 | p :: q :: ps, _, f => by
  rw [DX (by simp), List.singleton_append, Bt (f p (by simp)), FE (by simp) fun x hx => f x (List.mem_cons_of_mem _ hx)]
theorem Da (s : List Nat) : ∀ (ys : List Str) (a : Array Nat), (ys.foldl (fun acc p => acc ++ (tx s).cps ++ p.cps) a).toList = a.toList ++ (ys.map fun y => s ++ y.cps.toList).flatten
 | [], a => by simp
 | y :: ys, a => by
  rw [List.foldl_cons, Da s ys]
  simp
theorem Fy (s : List Nat) (ys : List (List Nat)) : Txt.join (tx s) (ys.map tx) = tx (C4 s ys) := by
 have aux : ∀ (y : List Nat) (ys : List (List Nat)), y ++ ((ys.map tx).map fun y => s ++ y.cps.toList).flatten = C4 s (y :: ys) := by
  intro y ys
  induction ys generalizing y with
  | nil => simp [C4]
  | cons z ys ih =>
   rw [DX (by simp), ← ih z]
   simp
 cases ys with
 | nil => rfl
 | cons y ys =>
  show (⟨List.foldl (fun acc p => acc ++ (tx s).cps ++ p.cps) (tx y).cps (ys.map tx)⟩ : Str) = _
  refine (IK _).trans (Ej.mpr ?_)
  show (List.foldl (fun acc p => acc ++ (tx s).cps ++ p.cps) (tx y).cps (ys.map tx)).toList = _
  rw [Da]
  exact aux y ys
theorem G8 (c : Nat) (l : List Nat) : Txt.split (tx l) (tx [c]) = (Ag c l).map tx := by
 have h1 := StrLaws.join_split (tx l) (tx [c])
 have h2 := fun p => StrLaws.split_free (tx l) c p
 have hne : Txt.split (tx l) (tx [c]) ≠ [] := by
  unfold Txt.split
  split
  ·simp
  ·split
   ·simp
   ·intro z
    have := PyProof.Rows.len_partsBetween (tx l) (Builtin.Str.occurrences (tx l) (tx [c]) 0 (tx l).length ((tx l).length + 1)) (tx [c]).length
    rw [z] at this
    simp at this
 generalize Txt.split (tx l) (tx [c]) = ps at *
 have e : ps = (ps.map fun p => p.cps.toList).map tx := by
  rw [List.map_map]
  conv => lhs; rw [← List.map_id ps]
  refine List.map_congr_left fun p _ => ?_
  exact IK p
 have h3 : C4 [c] (ps.map fun p => p.cps.toList) = l := by
  have := h1
  rw [e] at this
  rw [show Str.join (tx [c]) ((ps.map fun p => p.cps.toList).map tx) = Txt.join (tx [c]) ((ps.map fun p => p.cps.toList).map tx) from (StrLaws.glued_eq_join ..).symm, Fy] at this
  exact Ej.mp this
 rw [e, ← h3, FE]
 ·simpa using hne
 ·intro p hp
  obtain ⟨x, hx, rfl⟩ := List.mem_map.mp hp
  exact h2 x hx
section
variable {X : Cx}
abbrev tvs (ys : List (List Nat)) : List V := ys.map fun y => V.str (tx y)
theorem FA : ∀ {ys : List (List Nat)} {us : List Value}, AU (tvs ys) us → PyProof.Rows.StrsAre us (ys.map tx)
 | [], _, h => by cases h; exact .nil
 | y :: ys, _, h => by
  cases h with
  | cons r h =>
   obtain ⟨t, rfl⟩ := r
   exact .cons _ t (FA h)
def IH (K : PySem.W.Frag) : V → List V → Hp → VK → Prop := fun x vs H Q => ∃ s l ys, x = .str (tx s) ∧ vs = [.ref l] ∧ SqL K H l (tvs ys) ∧ (ys.map List.length).sum + ys.length * s.length ≤ 16777216 ∧ Q (.str (tx (C4 s ys))) H
theorem HX : MtR X "str.join" (IH X.K) := by
 intro pins s σ H x vs v us Q I rx rv h
 obtain ⟨sp, l, ys, rfl, rfl, hl, hz, q⟩ := h
 obtain ⟨t, rfl⟩ := rx
 obtain ⟨u, rfl, r1⟩ := vals1 rv
 cases r1
 obtain ⟨i1, r1, t1, _⟩ := I.list hl
 refine PyProof.Rows.join_list t1.isList (by simpa using FA r1) ?_ fun t' k => ?_
 ·rw [List.map_map, List.length_map, AO, show ((fun x : Str => x.length) ∘ tx) = List.length from funext fun y => AO y]
  exact hz
 ·refine ⟨.str _, H, I.tok _, ⟨_, rfl⟩, ?_⟩
  rw [Fy]
  exact q
theorem ET : ∀ (k : Nat) (ys : List (List Nat)), AU (tvs ys) (strsFrom k (ys.map tx))
 | _, [] => .nil
 | k, y :: ys => .cons ⟨k, rfl⟩ (ET (k + 1) ys)
def G9 : V → List V → Hp → VK → Prop := fun x vs H Q => ∃ l c, x = .str (tx l) ∧ vs = [.str (tx [c])] ∧ l.length < sizeLine ∧ ∀ p H', H p = none → AE H H' → H' p = some (.lst (tvs (Ag c l))) → Q (.ref p) H'
theorem DW (c : Nat) : ∀ l : List Nat, (Ag c l).length ≤ l.length + 1
 | [] => by simp [Ag]
 | a :: r => by
  have := DW c r
  unfold Ag
  split
  ·simp only [List.length_cons]; omega
  ·split
   ·simp
   ·rename_i p ps e
    rw [e] at this
    simp only [List.length_cons] at *
    omega
theorem G4 : MtR X "str.split" G9 := by
 intro pins s σ H x vs v us Q I rx rv h
 obtain ⟨l, c, rfl, rfl, hz, q⟩ := h
 obtain ⟨t, rfl⟩ := rx
 obtain ⟨u, rfl, t', rfl⟩ := vals1 rv
 have hf : H s.heap.objs.size = none := I.hok.fresh (Nat.le_refl _)
 have hcl := DW c l
 have sp := G8 c l
 by_cases h1 : (decide ((tx l).length < (tx [c]).length) || decide (Builtin.Str.strKind (tx l) < Builtin.Str.strKind (tx [c]))) = true
 ·refine call_meets F.slot_str_split (typeIs_str _ _ _) F.entry_str_split (F.args_str_split_2 _ _) (meets_str_split_cannot_occur _ _ _ _ h1) ?_
  have e : [tx l] = (Ag c l).map tx := by rw [← sp]; unfold Txt.split; rw [if_pos h1]
  refine ⟨.ref s.heap.objs.size, upd H s.heap.objs.size (.lst (tvs (Ag c l))), I.laid (t' := s.toks) (fun b u e => Heap.get?_push_of_some _ e) (Nat.le_refl _) ⟨by rw [List.length_map]; omega, [Value.str (tx l) t], 0, ?_, Heap.get?_push_size _ rfl⟩, rfl, q _ _ hf (At hf) AW⟩
  have e2 : Ag c l = [l] := by
   have := congrArg (List.map fun p : Str => p.cps.toList) e
   rw [List.map_map, show ((fun p : Str => p.cps.toList) ∘ tx) = id from rfl, List.map_id] at this
   exact this.symm
  rw [e2]
  exact .cons ⟨t, rfl⟩ .nil
 ·have h1' := Bool.eq_false_iff.mpr h1
  by_cases h2 : (Builtin.Str.occurrences (tx l) (tx [c]) 0 (tx l).length ((tx l).length + 1)).isEmpty = true
  ·refine call_meets F.slot_str_split (typeIs_str _ _ _) F.entry_str_split (F.args_str_split_2 _ _) (meets_str_split_not_found _ _ _ _ h1' rfl h2) ?_
   have e : [tx l] = (Ag c l).map tx := by rw [← sp]; unfold Txt.split; rw [if_neg h1, if_pos h2]
   refine ⟨.ref s.heap.objs.size, upd H s.heap.objs.size (.lst (tvs (Ag c l))), I.laid (t' := s.toks) (fun b u e => Heap.get?_push_of_some _ e) (Nat.le_refl _) ⟨by rw [List.length_map]; omega, [Value.str (tx l) t], 0, ?_, Heap.get?_push_size _ rfl⟩, rfl, q _ _ hf (At hf) AW⟩
   have e2 : Ag c l = [l] := by
    have := congrArg (List.map fun p : Str => p.cps.toList) e
    rw [List.map_map, show ((fun p : Str => p.cps.toList) ∘ tx) = id from rfl, List.map_id] at this
    exact this.symm
   rw [e2]
   exact .cons ⟨t, rfl⟩ .nil
  ·have h2' := Bool.eq_false_iff.mpr h2
   have e : Builtin.Str.partsBetween (tx l) (Builtin.Str.occurrences (tx l) (tx [c]) 0 (tx l).length ((tx l).length + 1)) (tx [c]).length = (Ag c l).map tx := by
    rw [← sp]; unfold Txt.split; rw [if_neg h1, if_neg h2]
   refine call_meets F.slot_str_split (typeIs_str _ _ _) F.entry_str_split (F.args_str_split_2 _ _) (meets_str_split_sep _ _ _ _ h1' rfl h2' (by rw [AO]; omega) (by rw [e, List.length_map]; omega)) ?_
   rw [e]
   exact ⟨.ref s.heap.objs.size, upd H s.heap.objs.size (.lst (tvs (Ag c l))), I.laid (fun b u e => Heap.get?_push_of_some _ e) (Nat.le_refl _) ⟨by rw [List.length_map]; omega, _, 0, ET _ _, Heap.get?_push_size _ rfl⟩, rfl, q _ _ hf (At hf) AW⟩
theorem o_fig : Str.ofString "0123456789" = tx [48, 49, 50, 51, 52, 53, 54, 55, 56, 57] := by rfl
end
end L2
namespace L2
open PySem PySem.Spec PyProof.Rows
theorem EZ {K : PySem.W.Frag} {a : Addr} {xs : List V} {te : TE} {caps : St} {D : Addr} {H1 : Hp} {Q : Hp → Prop} (hz : xs.length ≤ sizeLine) (hD : H1 D = none) (ht : SqT K H1 a xs) (f : V → V)
  (hs : ∀ x H (R : VK), x ∈ xs → AE H1 H → R (f x) H → te (some x :: caps) H R)
  (hd : ∀ H, AE H1 H → H D = some (.lst (xs.map f)) → Q H) : Db te Bp caps (Itt K a) D H1 Q := by
 refine ⟨fun i m ys H => m = xs.length - i ∧ i ≤ xs.length ∧ AE H1 H ∧ H D = some (.lst ys) ∧ ys = (xs.take i).map f, ⟨xs.length, rfl, Nat.zero_le _, At hD, AW, rfl⟩, ?_⟩
 rintro i m ys H ⟨rfl, hi, s1, e1, e2⟩
 have q := s1.tup ht
 have hy : ys.length = i := by rw [e2, List.length_map, List.length_take]; omega
 by_cases hlt : i < xs.length
 ·refine .inr ⟨⟨xs, xs[i], q, by simp [hlt]⟩, fun v H' y => ?_⟩
  obtain ⟨e, y⟩ := y
  subst e
  have hx := y xs q
  unfold Bp
  dsimp only
  rw [if_pos rfl]
  refine hs v _ _ (List.mem_of_getElem? hx) s1 ?_
  refine ⟨e1, by omega, _, by omega, rfl, hlt, s1.updFresh hD, AW, ?_⟩
  rw [List.take_succ, hx, List.map_append, e2]; rfl
 ·have e : i = xs.length := by omega
  subst e
  rw [List.take_length] at e2
  subst e2
  exact .inl ⟨⟨xs, q, by simp⟩, hd H s1 e1⟩
section
variable {X : Cx} {tg : Expr}
end
theorem Hz {K : PySem.W.Frag} {ns : List Int} {te : TE} {caps : St} {D : Addr} {H1 : Hp} {Q : Hp → Prop} {J : It} (hJ : (∃ a, J = Itl K a ∧ SqL K H1 a (ns.map V.int)) ∨ ∃ a, J = Itt K a ∧ SqT K H1 a (ns.map V.int)) (hz : ns.length ≤ 1000000) (hD : H1 D = none)
  (hs : ∀ n H (R : VK), n ∈ ns → AE H1 H → R (.str (tx (dec n))) H → te (some (.int n) :: caps) H R)
  (hd : ∀ H, AE H1 H → H D = some (.lst (tvs (ns.map dec))) → Q H) : Db te Bp caps J D H1 Q := by
 let f : V → V := fun v => match v with | .int n => .str (tx (dec n)) | v => v
 have ef : (ns.map V.int).map f = tvs (ns.map dec) := by rw [List.map_map, tvs, List.map_map]; rfl
 have hl : (ns.map V.int).length ≤ sizeLine := by rw [List.length_map, PySem.sizeLine_eq]; omega
 have hs' : ∀ x H (R : VK), x ∈ ns.map V.int → AE H1 H → R (f x) H → te (some x :: caps) H R := fun x H R hx s hR => by
  obtain ⟨n, hn, rfl⟩ := List.mem_map.mp hx
  exact hs n H R hn s hR
 rcases hJ with ⟨a, rfl, h⟩ | ⟨a, rfl, h⟩
 ·exact D0 hl hD h f hs' fun H s e => hd H s (by rw [e, ef])
 ·exact EZ hl hD h f hs' fun H s e => hd H s (by rw [e, ef])
def frT (x y : Int) : List Nat := if y = 1 then dec x else dec x ++ 47 :: dec y
def rdF (l : List Nat) : Option (Int × Int) := match Ag 47 l with
 | [_] => (rdN l).map fun x => (x, 1)
 | [a, b] => match rdN a, rdN b with
  | some x, some y => some (x, y)
  | _, _ => none
 | _ => none
end L2
set_option Elab.async false
set_option linter.all false
set_option maxRecDepth 100000
set_option maxHeartbeats 4000000
namespace TG
open PySem L2
abbrev GT : Type := Str → Str → Str → Str → Str → Str → Str → Str → Str → Str → Str → Str → Str → Str → Str → Str → Str → Str → Str → Str → Str → Str → Str → Str → Str → Str → Str → Str → Str → Str → Str → Str → Str → Str → Str → Str → Str → Str → Str → Str → Str → Str → Str → Str → Str → Str → Str → Str → Str → Str → Str → Str → Str → Str → Str → Str → Str → Str → Str → Str → Str → Str → Str → Str → Str → Str → Str → Str → Str → Str → Str → Str → Str → Str → Str → Str → Str → Str → Str → Str → Str → Str → Str → Program
def EqA (p : Program) (G : GT) : Prop := p = G (.ofString "__name__") (.ofString "throwgate.errors") (.ofString "BeachError") (.ofString "ValueError") (.ofString "BadRow") (.ofString "throwgate.fracs") (.ofString "greatest_divisor") (.ofString "one") (.ofString "two") (.ofString "divisor") (.ofString "rest") (.ofString "next_rest") (.ofString "lowest") (.ofString "top") (.ofString "bottom") (.ofString "abs") (.ofString "throwgate.texts") (.ofString "FIGURES") (.ofString "0123456789") (.ofString "MOST_FIGURES") (.ofString "are_figures") (.ofString "text") (.ofString "len") (.ofString "all") (.ofString "sign") (.ofString ".0") (.ofString "fast") (.ofString "read_number") (.ofString "0") (.ofString "figures") (.ofString "startswith") (.ofString "-") (.ofString "this is not how a number is written") (.ofString "int") (.ofString "read_fraction") (.ofString "parts") (.ofString "split") (.ofString "/") (.ofString "a fraction has one stroke at most") (.ofString "write_fraction") (.ofString "fraction") (.ofString "str") (.ofString "join") (.ofString "number") (.ofString "law_throwgate_k32_fractions_as_texts") (.ofString "_law_at") (.ofString "_law_script") (.ofString "_law_k") (.ofString "_law_gcd") (.ofString "_law_one") (.ofString "_law_two") (.ofString "_law_whole") (.ofString "_law_found") (.ofString "isinstance") (.ofString "bool") (.ofString "_law_numbers") (.ofString "_law_due") (.ofString "tuple") (.ofString "range") (.ofString "_law_read") (.ofString "_law_text") (.ofString "_law_refused") (.ofString "_law_written") (.ofString "_law_top") (.ofString "_law_bottom") (.ofString "_law_shared") (.ofString "law") (.ofString "_law_how") (.ofString "_law_second") (.ofString "_law_good") (.ofString "_law_told") (.ofString "_law_texts") (.ofString "//") (.ofString " /") (.ofString "/ ") (.ofString "/0") (.ofString "/x") (.ofString "") (.ofString "/1") (.ofString "+") (.ofString "/-0") (.ofString ":") (.ofString "/claim/cut.py")
noncomputable def Gp : GT := by
 refine' (?m : _ → GT) (?h : EqA PySem.Challenge.pw_throwgate_k32_fractions_as_texts ?G)
 case h =>
  delta EqA PySem.Challenge.pw_throwgate_k32_fractions_as_texts
  iterate 83 (generalize Str.ofString _ = x)
  exact rfl
 case m => exact fun _ => ?G
theorem Gq : EqA PySem.Challenge.pw_throwgate_k32_fractions_as_texts Gp := by delta EqA; kernel_rfl
theorem at_0 : Str.ofString "__name__" = Str.mk (.mk [95, 95, 110, 97, 109, 101, 95, 95]) := by kernel_rfl
theorem at_1 : Str.ofString "throwgate.errors" = Str.mk (.mk [116, 104, 114, 111, 119, 103, 97, 116, 101, 46, 101, 114, 114, 111, 114, 115]) := by kernel_rfl
theorem at_2 : Str.ofString "BeachError" = Str.mk (.mk [66, 101, 97, 99, 104, 69, 114, 114, 111, 114]) := by kernel_rfl
theorem at_3 : Str.ofString "ValueError" = Str.mk (.mk [86, 97, 108, 117, 101, 69, 114, 114, 111, 114]) := by kernel_rfl
theorem at_4 : Str.ofString "BadRow" = Str.mk (.mk [66, 97, 100, 82, 111, 119]) := by kernel_rfl
theorem at_5 : Str.ofString "throwgate.fracs" = Str.mk (.mk [116, 104, 114, 111, 119, 103, 97, 116, 101, 46, 102, 114, 97, 99, 115]) := by kernel_rfl
theorem at_6 : Str.ofString "greatest_divisor" = Str.mk (.mk [103, 114, 101, 97, 116, 101, 115, 116, 95, 100, 105, 118, 105, 115, 111, 114]) := by kernel_rfl
theorem at_7 : Str.ofString "one" = Str.mk (.mk [111, 110, 101]) := by kernel_rfl
theorem at_8 : Str.ofString "two" = Str.mk (.mk [116, 119, 111]) := by kernel_rfl
theorem at_9 : Str.ofString "divisor" = Str.mk (.mk [100, 105, 118, 105, 115, 111, 114]) := by kernel_rfl
theorem at_10 : Str.ofString "rest" = Str.mk (.mk [114, 101, 115, 116]) := by kernel_rfl
theorem at_11 : Str.ofString "next_rest" = Str.mk (.mk [110, 101, 120, 116, 95, 114, 101, 115, 116]) := by kernel_rfl
theorem at_12 : Str.ofString "lowest" = Str.mk (.mk [108, 111, 119, 101, 115, 116]) := by kernel_rfl
theorem at_13 : Str.ofString "top" = Str.mk (.mk [116, 111, 112]) := by kernel_rfl
theorem at_14 : Str.ofString "bottom" = Str.mk (.mk [98, 111, 116, 116, 111, 109]) := by kernel_rfl
theorem at_15 : Str.ofString "abs" = Str.mk (.mk [97, 98, 115]) := by kernel_rfl
theorem at_16 : Str.ofString "throwgate.texts" = Str.mk (.mk [116, 104, 114, 111, 119, 103, 97, 116, 101, 46, 116, 101, 120, 116, 115]) := by kernel_rfl
theorem at_17 : Str.ofString "FIGURES" = Str.mk (.mk [70, 73, 71, 85, 82, 69, 83]) := by kernel_rfl
theorem at_18 : Str.ofString "0123456789" = Str.mk (.mk [48, 49, 50, 51, 52, 53, 54, 55, 56, 57]) := by kernel_rfl
theorem at_19 : Str.ofString "MOST_FIGURES" = Str.mk (.mk [77, 79, 83, 84, 95, 70, 73, 71, 85, 82, 69, 83]) := by kernel_rfl
theorem at_20 : Str.ofString "are_figures" = Str.mk (.mk [97, 114, 101, 95, 102, 105, 103, 117, 114, 101, 115]) := by kernel_rfl
theorem at_21 : Str.ofString "text" = Str.mk (.mk [116, 101, 120, 116]) := by kernel_rfl
theorem at_22 : Str.ofString "len" = Str.mk (.mk [108, 101, 110]) := by kernel_rfl
theorem at_23 : Str.ofString "all" = Str.mk (.mk [97, 108, 108]) := by kernel_rfl
theorem at_24 : Str.ofString "sign" = Str.mk (.mk [115, 105, 103, 110]) := by kernel_rfl
theorem at_25 : Str.ofString ".0" = Str.mk (.mk [46, 48]) := by kernel_rfl
theorem at_26 : Str.ofString "fast" = Str.mk (.mk [102, 97, 115, 116]) := by kernel_rfl
theorem at_27 : Str.ofString "read_number" = Str.mk (.mk [114, 101, 97, 100, 95, 110, 117, 109, 98, 101, 114]) := by kernel_rfl
theorem at_28 : Str.ofString "0" = Str.mk (.mk [48]) := by kernel_rfl
theorem at_29 : Str.ofString "figures" = Str.mk (.mk [102, 105, 103, 117, 114, 101, 115]) := by kernel_rfl
theorem at_30 : Str.ofString "startswith" = Str.mk (.mk [115, 116, 97, 114, 116, 115, 119, 105, 116, 104]) := by kernel_rfl
theorem at_31 : Str.ofString "-" = Str.mk (.mk [45]) := by kernel_rfl
theorem at_32 : Str.ofString "this is not how a number is written" = Str.mk (.mk [116, 104, 105, 115, 32, 105, 115, 32, 110, 111, 116, 32, 104, 111, 119, 32, 97, 32, 110, 117, 109, 98, 101, 114, 32, 105, 115, 32, 119, 114, 105, 116, 116, 101, 110]) := by kernel_rfl
theorem at_33 : Str.ofString "int" = Str.mk (.mk [105, 110, 116]) := by kernel_rfl
theorem at_34 : Str.ofString "read_fraction" = Str.mk (.mk [114, 101, 97, 100, 95, 102, 114, 97, 99, 116, 105, 111, 110]) := by kernel_rfl
theorem at_35 : Str.ofString "parts" = Str.mk (.mk [112, 97, 114, 116, 115]) := by kernel_rfl
theorem at_36 : Str.ofString "split" = Str.mk (.mk [115, 112, 108, 105, 116]) := by kernel_rfl
theorem at_37 : Str.ofString "/" = Str.mk (.mk [47]) := by kernel_rfl
theorem at_38 : Str.ofString "a fraction has one stroke at most" = Str.mk (.mk [97, 32, 102, 114, 97, 99, 116, 105, 111, 110, 32, 104, 97, 115, 32, 111, 110, 101, 32, 115, 116, 114, 111, 107, 101, 32, 97, 116, 32, 109, 111, 115, 116]) := by kernel_rfl
theorem at_39 : Str.ofString "write_fraction" = Str.mk (.mk [119, 114, 105, 116, 101, 95, 102, 114, 97, 99, 116, 105, 111, 110]) := by kernel_rfl
theorem at_40 : Str.ofString "fraction" = Str.mk (.mk [102, 114, 97, 99, 116, 105, 111, 110]) := by kernel_rfl
theorem at_41 : Str.ofString "str" = Str.mk (.mk [115, 116, 114]) := by kernel_rfl
theorem at_42 : Str.ofString "join" = Str.mk (.mk [106, 111, 105, 110]) := by kernel_rfl
theorem at_43 : Str.ofString "number" = Str.mk (.mk [110, 117, 109, 98, 101, 114]) := by kernel_rfl
theorem at_44 : Str.ofString "law_throwgate_k32_fractions_as_texts" = Str.mk (.mk [108, 97, 119, 95, 116, 104, 114, 111, 119, 103, 97, 116, 101, 95, 107, 51, 50, 95, 102, 114, 97, 99, 116, 105, 111, 110, 115, 95, 97, 115, 95, 116, 101, 120, 116, 115]) := by kernel_rfl
theorem at_45 : Str.ofString "_law_at" = Str.mk (.mk [95, 108, 97, 119, 95, 97, 116]) := by kernel_rfl
theorem at_46 : Str.ofString "_law_script" = Str.mk (.mk [95, 108, 97, 119, 95, 115, 99, 114, 105, 112, 116]) := by kernel_rfl
theorem at_47 : Str.ofString "_law_k" = Str.mk (.mk [95, 108, 97, 119, 95, 107]) := by kernel_rfl
theorem at_48 : Str.ofString "_law_gcd" = Str.mk (.mk [95, 108, 97, 119, 95, 103, 99, 100]) := by kernel_rfl
theorem at_49 : Str.ofString "_law_one" = Str.mk (.mk [95, 108, 97, 119, 95, 111, 110, 101]) := by kernel_rfl
theorem at_50 : Str.ofString "_law_two" = Str.mk (.mk [95, 108, 97, 119, 95, 116, 119, 111]) := by kernel_rfl
theorem at_51 : Str.ofString "_law_whole" = Str.mk (.mk [95, 108, 97, 119, 95, 119, 104, 111, 108, 101]) := by kernel_rfl
theorem at_52 : Str.ofString "_law_found" = Str.mk (.mk [95, 108, 97, 119, 95, 102, 111, 117, 110, 100]) := by kernel_rfl
theorem at_53 : Str.ofString "isinstance" = Str.mk (.mk [105, 115, 105, 110, 115, 116, 97, 110, 99, 101]) := by kernel_rfl
theorem at_54 : Str.ofString "bool" = Str.mk (.mk [98, 111, 111, 108]) := by kernel_rfl
theorem at_55 : Str.ofString "_law_numbers" = Str.mk (.mk [95, 108, 97, 119, 95, 110, 117, 109, 98, 101, 114, 115]) := by kernel_rfl
theorem at_56 : Str.ofString "_law_due" = Str.mk (.mk [95, 108, 97, 119, 95, 100, 117, 101]) := by kernel_rfl
theorem at_57 : Str.ofString "tuple" = Str.mk (.mk [116, 117, 112, 108, 101]) := by kernel_rfl
theorem at_58 : Str.ofString "range" = Str.mk (.mk [114, 97, 110, 103, 101]) := by kernel_rfl
theorem at_59 : Str.ofString "_law_read" = Str.mk (.mk [95, 108, 97, 119, 95, 114, 101, 97, 100]) := by kernel_rfl
theorem at_60 : Str.ofString "_law_text" = Str.mk (.mk [95, 108, 97, 119, 95, 116, 101, 120, 116]) := by kernel_rfl
theorem at_61 : Str.ofString "_law_refused" = Str.mk (.mk [95, 108, 97, 119, 95, 114, 101, 102, 117, 115, 101, 100]) := by kernel_rfl
theorem at_62 : Str.ofString "_law_written" = Str.mk (.mk [95, 108, 97, 119, 95, 119, 114, 105, 116, 116, 101, 110]) := by kernel_rfl
theorem at_63 : Str.ofString "_law_top" = Str.mk (.mk [95, 108, 97, 119, 95, 116, 111, 112]) := by kernel_rfl
theorem at_64 : Str.ofString "_law_bottom" = Str.mk (.mk [95, 108, 97, 119, 95, 98, 111, 116, 116, 111, 109]) := by kernel_rfl
theorem at_65 : Str.ofString "_law_shared" = Str.mk (.mk [95, 108, 97, 119, 95, 115, 104, 97, 114, 101, 100]) := by kernel_rfl
theorem at_66 : Str.ofString "law" = Str.mk (.mk [108, 97, 119]) := by kernel_rfl
theorem at_67 : Str.ofString "_law_how" = Str.mk (.mk [95, 108, 97, 119, 95, 104, 111, 119]) := by kernel_rfl
theorem at_68 : Str.ofString "_law_second" = Str.mk (.mk [95, 108, 97, 119, 95, 115, 101, 99, 111, 110, 100]) := by kernel_rfl
theorem at_69 : Str.ofString "_law_good" = Str.mk (.mk [95, 108, 97, 119, 95, 103, 111, 111, 100]) := by kernel_rfl
theorem at_70 : Str.ofString "_law_told" = Str.mk (.mk [95, 108, 97, 119, 95, 116, 111, 108, 100]) := by kernel_rfl
theorem at_71 : Str.ofString "_law_texts" = Str.mk (.mk [95, 108, 97, 119, 95, 116, 101, 120, 116, 115]) := by kernel_rfl
theorem at_72 : Str.ofString "//" = Str.mk (.mk [47, 47]) := by kernel_rfl
theorem at_73 : Str.ofString " /" = Str.mk (.mk [32, 47]) := by kernel_rfl
theorem at_74 : Str.ofString "/ " = Str.mk (.mk [47, 32]) := by kernel_rfl
theorem at_75 : Str.ofString "/0" = Str.mk (.mk [47, 48]) := by kernel_rfl
theorem at_76 : Str.ofString "/x" = Str.mk (.mk [47, 120]) := by kernel_rfl
theorem at_77 : Str.ofString "" = Str.mk (.mk []) := by kernel_rfl
theorem at_78 : Str.ofString "/1" = Str.mk (.mk [47, 49]) := by kernel_rfl
theorem at_79 : Str.ofString "+" = Str.mk (.mk [43]) := by kernel_rfl
theorem at_80 : Str.ofString "/-0" = Str.mk (.mk [47, 45, 48]) := by kernel_rfl
theorem at_81 : Str.ofString ":" = Str.mk (.mk [58]) := by kernel_rfl
theorem at_82 : Str.ofString "/claim/cut.py" = Str.mk (.mk [47, 99, 108, 97, 105, 109, 47, 99, 117, 116, 46, 112, 121]) := by kernel_rfl
noncomputable def Tw : PSigma fun t : Program => PySem.Challenge.pw_throwgate_k32_fractions_as_texts = t := by
 have h := Gq
 simp only [EqA, at_0, at_1, at_2, at_3, at_4, at_5, at_6, at_7, at_8, at_9, at_10, at_11, at_12, at_13, at_14, at_15, at_16, at_17, at_18, at_19, at_20, at_21, at_22, at_23, at_24, at_25, at_26, at_27, at_28, at_29, at_30, at_31, at_32, at_33, at_34, at_35, at_36, at_37, at_38, at_39, at_40, at_41, at_42, at_43, at_44, at_45, at_46, at_47, at_48, at_49, at_50, at_51, at_52, at_53, at_54, at_55, at_56, at_57, at_58, at_59, at_60, at_61, at_62, at_63, at_64, at_65, at_66, at_67, at_68, at_69, at_70, at_71, at_72, at_73, at_74, at_75, at_76, at_77, at_78, at_79, at_80, at_81, at_82] at h
 exact ⟨_, h⟩
noncomputable def _root_.PySem.W.Fast.tw1891509625320349590 : PySem.Program := TG.Tw.1
theorem _root_.PySem.W.Fast.te1891509625320349590 : PySem.Challenge.pw_throwgate_k32_fractions_as_texts = PySem.W.Fast.tw1891509625320349590 := TG.Tw.2
set_option hygiene false
local macro_rules | `(tactic| walk_at "O") => `(tactic| (first | exact Or.inl rfl | exact Or.inr rfl))
local macro_rules | `(tactic| walk_at "NX") => `(tactic| (refine hM _ _ ?_; clear hM; clear M))
local macro_rules | `(tactic| walk_at "Q") => `(tactic| (refine HM fun M hM => ?_))
local macro_rules | `(tactic| walk_at "SC") => `(tactic| (exact ⟨rfl, rfl, rfl, by decide +kernel, rfl, by decide +kernel, by decide +kernel⟩))
local macro_rules | `(tactic| walk_at "SQT0") => `(tactic| (first | with_reducible assumption | exact SqT.of (by with_reducible assumption)))
local macro_rules | `(tactic| walk_at "SQL0") => `(tactic| (first | with_reducible assumption | exact SqL.of (by with_reducible assumption)))
local macro_rules | `(tactic| walk_at "SAT0") => `(tactic| (with_reducible assumption))
local macro_rules | `(tactic| walk_at "SAME0") => `(tactic| (first | with_reducible assumption | exact AE.refl _))
local macro_rules | `(tactic| walk_at "SQT1") => `(tactic| (first | with_reducible assumption | exact SqT.of (by with_reducible assumption) | exact AE.tup (by with_reducible assumption) (by walk_at "SQT0")))
local macro_rules | `(tactic| walk_at "SQL1") => `(tactic| (first | with_reducible assumption | exact SqL.of (by with_reducible assumption) | exact AE.seq (by with_reducible assumption) (by walk_at "SQL0")))
local macro_rules | `(tactic| walk_at "SAT1") => `(tactic| (first | with_reducible assumption | exact AE.get (by with_reducible assumption) (by walk_at "SAT0")))
local macro_rules | `(tactic| walk_at "SAME1") => `(tactic| (first | with_reducible assumption | exact AE.refl _ | exact AE.trans (by with_reducible assumption) (by walk_at "SAME0")))
local macro_rules | `(tactic| walk_at "SQT2") => `(tactic| (first | with_reducible assumption | exact SqT.of (by with_reducible assumption) | exact AE.tup (by with_reducible assumption) (by walk_at "SQT1")))
local macro_rules | `(tactic| walk_at "SQL2") => `(tactic| (first | with_reducible assumption | exact SqL.of (by with_reducible assumption) | exact AE.seq (by with_reducible assumption) (by walk_at "SQL1")))
local macro_rules | `(tactic| walk_at "SAT2") => `(tactic| (first | with_reducible assumption | exact AE.get (by with_reducible assumption) (by walk_at "SAT1")))
local macro_rules | `(tactic| walk_at "SAME2") => `(tactic| (first | with_reducible assumption | exact AE.refl _ | exact AE.trans (by with_reducible assumption) (by walk_at "SAME1")))
local macro_rules | `(tactic| walk_at "SQT3") => `(tactic| (first | with_reducible assumption | exact SqT.of (by with_reducible assumption) | exact AE.tup (by with_reducible assumption) (by walk_at "SQT2")))
local macro_rules | `(tactic| walk_at "SQL3") => `(tactic| (first | with_reducible assumption | exact SqL.of (by with_reducible assumption) | exact AE.seq (by with_reducible assumption) (by walk_at "SQL2")))
local macro_rules | `(tactic| walk_at "SAT3") => `(tactic| (first | with_reducible assumption | exact AE.get (by with_reducible assumption) (by walk_at "SAT2")))
local macro_rules | `(tactic| walk_at "SAME3") => `(tactic| (first | with_reducible assumption | exact AE.refl _ | exact AE.trans (by with_reducible assumption) (by walk_at "SAME2")))
local macro_rules | `(tactic| walk_at "SQT4") => `(tactic| (first | with_reducible assumption | exact SqT.of (by with_reducible assumption) | exact AE.tup (by with_reducible assumption) (by walk_at "SQT3")))
local macro_rules | `(tactic| walk_at "SQL4") => `(tactic| (first | with_reducible assumption | exact SqL.of (by with_reducible assumption) | exact AE.seq (by with_reducible assumption) (by walk_at "SQL3")))
local macro_rules | `(tactic| walk_at "SAT4") => `(tactic| (first | with_reducible assumption | exact AE.get (by with_reducible assumption) (by walk_at "SAT3")))
local macro_rules | `(tactic| walk_at "SAME4") => `(tactic| (first | with_reducible assumption | exact AE.refl _ | exact AE.trans (by with_reducible assumption) (by walk_at "SAME3")))
local macro_rules | `(tactic| walk_at "SQT5") => `(tactic| (first | with_reducible assumption | exact SqT.of (by with_reducible assumption) | exact AE.tup (by with_reducible assumption) (by walk_at "SQT4")))
local macro_rules | `(tactic| walk_at "SQL5") => `(tactic| (first | with_reducible assumption | exact SqL.of (by with_reducible assumption) | exact AE.seq (by with_reducible assumption) (by walk_at "SQL4")))
local macro_rules | `(tactic| walk_at "SAT5") => `(tactic| (first | with_reducible assumption | exact AE.get (by with_reducible assumption) (by walk_at "SAT4")))
local macro_rules | `(tactic| walk_at "SAME5") => `(tactic| (first | with_reducible assumption | exact AE.refl _ | exact AE.trans (by with_reducible assumption) (by walk_at "SAME4")))
local macro_rules | `(tactic| walk_at "SQT6") => `(tactic| (first | with_reducible assumption | exact SqT.of (by with_reducible assumption) | exact AE.tup (by with_reducible assumption) (by walk_at "SQT5")))
local macro_rules | `(tactic| walk_at "SQL6") => `(tactic| (first | with_reducible assumption | exact SqL.of (by with_reducible assumption) | exact AE.seq (by with_reducible assumption) (by walk_at "SQL5")))
local macro_rules | `(tactic| walk_at "SAT6") => `(tactic| (first | with_reducible assumption | exact AE.get (by with_reducible assumption) (by walk_at "SAT5")))
local macro_rules | `(tactic| walk_at "SAME6") => `(tactic| (first | with_reducible assumption | exact AE.refl _ | exact AE.trans (by with_reducible assumption) (by walk_at "SAME5")))
local macro_rules | `(tactic| walk_at "SQT7") => `(tactic| (first | with_reducible assumption | exact SqT.of (by with_reducible assumption) | exact AE.tup (by with_reducible assumption) (by walk_at "SQT6")))
local macro_rules | `(tactic| walk_at "SQL7") => `(tactic| (first | with_reducible assumption | exact SqL.of (by with_reducible assumption) | exact AE.seq (by with_reducible assumption) (by walk_at "SQL6")))
local macro_rules | `(tactic| walk_at "SAT7") => `(tactic| (first | with_reducible assumption | exact AE.get (by with_reducible assumption) (by walk_at "SAT6")))
local macro_rules | `(tactic| walk_at "SAME7") => `(tactic| (first | with_reducible assumption | exact AE.refl _ | exact AE.trans (by with_reducible assumption) (by walk_at "SAME6")))
local macro_rules | `(tactic| walk_at "SQT8") => `(tactic| (first | with_reducible assumption | exact SqT.of (by with_reducible assumption) | exact AE.tup (by with_reducible assumption) (by walk_at "SQT7")))
local macro_rules | `(tactic| walk_at "SQL8") => `(tactic| (first | with_reducible assumption | exact SqL.of (by with_reducible assumption) | exact AE.seq (by with_reducible assumption) (by walk_at "SQL7")))
local macro_rules | `(tactic| walk_at "SAT8") => `(tactic| (first | with_reducible assumption | exact AE.get (by with_reducible assumption) (by walk_at "SAT7")))
local macro_rules | `(tactic| walk_at "SAME8") => `(tactic| (first | with_reducible assumption | exact AE.refl _ | exact AE.trans (by with_reducible assumption) (by walk_at "SAME7")))
local macro_rules | `(tactic| walk_at "SQT9") => `(tactic| (first | with_reducible assumption | exact SqT.of (by with_reducible assumption) | exact AE.tup (by with_reducible assumption) (by walk_at "SQT8")))
local macro_rules | `(tactic| walk_at "SQL9") => `(tactic| (first | with_reducible assumption | exact SqL.of (by with_reducible assumption) | exact AE.seq (by with_reducible assumption) (by walk_at "SQL8")))
local macro_rules | `(tactic| walk_at "SAT9") => `(tactic| (first | with_reducible assumption | exact AE.get (by with_reducible assumption) (by walk_at "SAT8")))
local macro_rules | `(tactic| walk_at "SAME9") => `(tactic| (first | with_reducible assumption | exact AE.refl _ | exact AE.trans (by with_reducible assumption) (by walk_at "SAME8")))
local macro_rules | `(tactic| walk_at "RD") => `(tactic| (first | (dsimp only [FI, Ee, Fb, EI, EE, Ed, FX, EM, Do, CI, ED, DC, CS, tOp, tUn, Dt, tC, CN, CK, Dy, CA, tCB, CH, CQ, rI, rI0, rU, rEq, rNe, D4, E3, tOr, B8, Er, CO, tB, tIf, D6, Dx, CJ, BB, BH, Bk, E1, EU, Ca, Bm, Bl, Ey, BE, CY, Ef, CF, Dz, Ep, C2, BF, CC, CL, C6, BX, Bp, tSl, Ec, Az, CG, D1, Cb, rIn, Em, Cg, Cs, Bi, Bh, D2, Cd, Eg, Bf, Cj, Ch, Cw, Ct, L2.start, if_true, if_false, List.map_cons, List.map_nil, List.length_cons, List.length_nil, List.cons_append, List.nil_append, List.replicate, List.set_cons_zero, List.set_cons_succ, List.getElem?_cons_zero, List.getElem?_cons_succ, Nat.reduceAdd, Nat.reduceSub, Int.reduceToNat, Int.reduceNeg, Int.reduceMul, Int.reduceAdd, Int.reduceSub]; (try simp only [FI, Ee, Fb, EI, EE, Ed, FX, EM, Do, CI, ED, DC, CS, tOp, tUn, Dt, tC, CN, CK, Dy, CA, tCB, CH, CQ, rI, rI0, rU, rEq, rNe, FD, D4, E3, tOr, B8, Er, CO, tB, tIf, D6, Dx, GL, FV, GZ, CJ, BB, BH, Bk, E1, EU, Ca, Bm, Bl, Ey, BE, CY, Ef, CF, Dz, Ep, C2, BF, CC, CL, C6, BX, Bp, tSl, Ec, Az, CG, D1, Cb, rIn, Em, Cg, Cs, Bi, Bh, D2, Cd, Eg, Bf, Cj, Ch, Cw, Ct, L2.start, cxK, exists_and_right, and_assoc, Int.reduceLE, Int.reduceLT, Nat.reduceLT, Nat.reducePow, Int.reducePow, DL, EF, false_and, exists_false, and_false, if_true, if_false, decide_true, decide_false, Bool.false_eq_true, Bool.not_true, Bool.not_false, List.map_cons, List.map_nil, List.length_cons, List.length_nil, List.cons_append, List.nil_append, List.append_nil, List.replicate, List.set_cons_zero, List.set_cons_succ, List.getElem?_cons_zero, List.getElem?_cons_succ, Option.some.injEq, V.int.injEq, V.bl.injEq, V.ref.injEq, V.ty.injEq, V.str.injEq, List.cons.injEq, exists_eq_left', exists_and_left, exists_eq_left, true_and, and_true, true_or, or_true, Nat.reduceAdd, Nat.reduceSub, Int.reduceToNat, Int.reduceNeg, Int.reduceMul, Int.reduceAdd, Int.reduceSub, Bool.not_eq_true, Bool.not_not, forall_const])) | simp only [FI, Ee, Fb, EI, EE, Ed, FX, EM, Do, CI, ED, DC, CS, tOp, tUn, Dt, tC, CN, CK, Dy, CA, tCB, CH, CQ, rI, rI0, rU, rEq, rNe, FD, D4, E3, tOr, B8, Er, CO, tB, tIf, D6, Dx, GL, FV, GZ, CJ, BB, BH, Bk, E1, EU, Ca, Bm, Bl, Ey, BE, CY, Ef, CF, Dz, Ep, C2, BF, CC, CL, C6, BX, Bp, tSl, Ec, Az, CG, D1, Cb, rIn, Em, Cg, Cs, Bi, Bh, D2, Cd, Eg, Bf, Cj, Ch, Cw, Ct, L2.start, cxK, exists_and_right, and_assoc, Int.reduceLE, Int.reduceLT, Nat.reduceLT, Nat.reducePow, Int.reducePow, DL, EF, false_and, exists_false, and_false, if_true, if_false, decide_true, decide_false, Bool.false_eq_true, Bool.not_true, Bool.not_false, List.map_cons, List.map_nil, List.length_cons, List.length_nil, List.cons_append, List.nil_append, List.append_nil, List.replicate, List.set_cons_zero, List.set_cons_succ, List.getElem?_cons_zero, List.getElem?_cons_succ, Option.some.injEq, V.int.injEq, V.bl.injEq, V.ref.injEq, V.ty.injEq, V.str.injEq, List.cons.injEq, exists_eq_left', exists_and_left, exists_eq_left, true_and, and_true, true_or, or_true, Nat.reduceAdd, Nat.reduceSub, Int.reduceToNat, Int.reduceNeg, Int.reduceMul, Int.reduceAdd, Int.reduceSub, Bool.not_eq_true, Bool.not_not, forall_const]))
local macro_rules | `(tactic| walk_at "RDE") => `(tactic| (first | (dsimp only [tOp, tUn, Dt, tC, CN, CK, Dy, CA, tCB, CH, CQ, rI, rI0, rU, rEq, rNe, D4, E3, tOr, B8, Er, CO, tB, tIf, D6, Dx, CJ, BB, BH, Bk, E1, EU, Ca, Bm, Bl, Ey, BE, CY, Ef, CF, Dz, Ep, C2, BF, CC, CL, C6, BX, Bp, tSl, Ec, Az, CG, D1, Cb, rIn, Em, Cg, Cs, Bi, Bh, D2, Cd, Eg, Bf, Cj, Ch, Cw, Ct, L2.start, if_true, if_false, List.map_cons, List.map_nil, List.length_cons, List.length_nil, List.cons_append, List.nil_append, List.replicate, List.set_cons_zero, List.set_cons_succ, List.getElem?_cons_zero, List.getElem?_cons_succ, Nat.reduceAdd, Nat.reduceSub, Int.reduceToNat, Int.reduceNeg, Int.reduceMul, Int.reduceAdd, Int.reduceSub]; (try simp only [tOp, tUn, Dt, tC, CN, CK, Dy, CA, tCB, CH, CQ, rI, rI0, rU, rEq, rNe, FD, D4, E3, tOr, B8, Er, CO, tB, tIf, D6, Dx, GL, FV, GZ, CJ, BB, BH, Bk, E1, EU, Ca, Bm, Bl, Ey, BE, CY, Ef, CF, Dz, Ep, C2, BF, CC, CL, C6, BX, Bp, tSl, Ec, Az, CG, D1, Cb, rIn, Em, Cg, Cs, Bi, Bh, D2, Cd, Eg, Bf, Cj, Ch, Cw, Ct, L2.start, cxK, exists_and_right, and_assoc, Int.reduceLE, Int.reduceLT, Nat.reduceLT, Nat.reducePow, Int.reducePow, DL, EF, false_and, exists_false, and_false, if_true, if_false, decide_true, decide_false, Bool.false_eq_true, Bool.not_true, Bool.not_false, List.map_cons, List.map_nil, List.length_cons, List.length_nil, List.cons_append, List.nil_append, List.append_nil, List.replicate, List.set_cons_zero, List.set_cons_succ, List.getElem?_cons_zero, List.getElem?_cons_succ, Option.some.injEq, V.int.injEq, V.bl.injEq, V.ref.injEq, V.ty.injEq, V.str.injEq, List.cons.injEq, exists_eq_left', exists_and_left, exists_eq_left, true_and, and_true, true_or, or_true, Nat.reduceAdd, Nat.reduceSub, Int.reduceToNat, Int.reduceNeg, Int.reduceMul, Int.reduceAdd, Int.reduceSub, Bool.not_eq_true, Bool.not_not, forall_const])) | simp only [tOp, tUn, Dt, tC, CN, CK, Dy, CA, tCB, CH, CQ, rI, rI0, rU, rEq, rNe, FD, D4, E3, tOr, B8, Er, CO, tB, tIf, D6, Dx, GL, FV, GZ, CJ, BB, BH, Bk, E1, EU, Ca, Bm, Bl, Ey, BE, CY, Ef, CF, Dz, Ep, C2, BF, CC, CL, C6, BX, Bp, tSl, Ec, Az, CG, D1, Cb, rIn, Em, Cg, Cs, Bi, Bh, D2, Cd, Eg, Bf, Cj, Ch, Cw, Ct, L2.start, cxK, exists_and_right, and_assoc, Int.reduceLE, Int.reduceLT, Nat.reduceLT, Nat.reducePow, Int.reducePow, DL, EF, false_and, exists_false, and_false, if_true, if_false, decide_true, decide_false, Bool.false_eq_true, Bool.not_true, Bool.not_false, List.map_cons, List.map_nil, List.length_cons, List.length_nil, List.cons_append, List.nil_append, List.append_nil, List.replicate, List.set_cons_zero, List.set_cons_succ, List.getElem?_cons_zero, List.getElem?_cons_succ, Option.some.injEq, V.int.injEq, V.bl.injEq, V.ref.injEq, V.ty.injEq, V.str.injEq, List.cons.injEq, exists_eq_left', exists_and_left, exists_eq_left, true_and, and_true, true_or, or_true, Nat.reduceAdd, Nat.reduceSub, Int.reduceToNat, Int.reduceNeg, Int.reduceMul, Int.reduceAdd, Int.reduceSub, Bool.not_eq_true, Bool.not_not, forall_const]))
local macro_rules | `(tactic| walk_at "STEP") => `(tactic| ((first | (with_reducible refine ⟨_, rfl, ?_⟩) | (with_reducible apply C5; · exact rfl) | (with_reducible apply C5; · (walk_at "SQT6")) | (with_reducible apply C5; · (walk_at "SQL6")) | (with_reducible apply C5; · (walk_at "SAT6")) | (with_reducible apply C5; · exact G3 (by omega) (by omega)) | (with_reducible apply exOrL; · (walk_at "SQL6")) | (with_reducible apply exOrR; · (walk_at "SQT6")) | (with_reducible apply C5; · exact Bq.tup (by walk_at "SAT6")) | (with_reducible apply C5; · exact Bq.lst (by walk_at "SAT6")) | (with_reducible apply C5; · exact Bq.int _) | (with_reducible apply C5; · exact Bq.str _) | (with_reducible apply And.intro; · (first | exact rfl | decide | with_reducible assumption | omega | exact ⟨_, rfl⟩ | exact ⟨_, (by walk_at "SQL6")⟩ | exact ⟨_, (by walk_at "SQT6")⟩ | exact ⟨_, (by walk_at "SAT6")⟩ | (simp only [List.length_map, List.length_append, List.length_cons, List.length_nil, PySem.sizeLine_eq]; omega) | first | with_reducible assumption | exact Sm.of (n := 10 ^ 120) (by omega) (by decide +kernel))) | (with_reducible intro p H' hn hs he; (have ck := JC hs); clear ck) | (with_reducible apply JD; · (first | decide | (simp; done) | (simp; omega))) | (with_reducible apply IR; · (first | decide | (simp; done) | (simp; omega))))))
local macro_rules | `(tactic| walk_at "AUTO") => `(tactic| (repeat walk_at "STEP"))
local macro_rules | `(tactic| delta $ids*) => do
  let ls ← ids.mapM fun i => `(Lean.Parser.Tactic.simpLemma| $i:ident)
  `(tactic| first | (dsimp only [FI, Ee, Fb, EI, EE, Ed, FX, EM, Do, CI, ED, DC, CS, tOp, tUn, Dt, tC, CN, CK, Dy, CA, tCB, CH, CQ, rI, rI0, rU, rEq, rNe, D4, E3, tOr, B8, Er, CO, tB, tIf, D6, Dx, CJ, BB, BH, Bk, E1, EU, Ca, Bm, Bl, Ey, BE, CY, Ef, CF, Dz, Ep, C2, BF, CC, CL, C6, BX, Bp, tSl, Ec, Az, CG, D1, Cb, rIn, Em, Cg, Cs, Bi, Bh, D2, Cd, Eg, Bf, Cj, Ch, Cw, Ct, L2.start, if_true, if_false, List.map_cons, List.map_nil, List.length_cons, List.length_nil, List.cons_append, List.nil_append, List.replicate, List.set_cons_zero, List.set_cons_succ, List.getElem?_cons_zero, List.getElem?_cons_succ, Nat.reduceAdd, Nat.reduceSub, Int.reduceToNat, Int.reduceNeg, Int.reduceMul, Int.reduceAdd, Int.reduceSub, $ls,*]; (try simp only [FI, Ee, Fb, EI, EE, Ed, FX, EM, Do, CI, ED, DC, CS, tOp, tUn, Dt, tC, CN, CK, Dy, CA, tCB, CH, CQ, rI, rI0, rU, rEq, rNe, FD, D4, E3, tOr, B8, Er, CO, tB, tIf, D6, Dx, GL, FV, GZ, CJ, BB, BH, Bk, E1, EU, Ca, Bm, Bl, Ey, BE, CY, Ef, CF, Dz, Ep, C2, BF, CC, CL, C6, BX, Bp, tSl, Ec, Az, CG, D1, Cb, rIn, Em, Cg, Cs, Bi, Bh, D2, Cd, Eg, Bf, Cj, Ch, Cw, Ct, L2.start, cxK, exists_and_right, and_assoc, Int.reduceLE, Int.reduceLT, Nat.reduceLT, Nat.reducePow, Int.reducePow, DL, EF, false_and, exists_false, and_false, if_true, if_false, decide_true, decide_false, Bool.false_eq_true, Bool.not_true, Bool.not_false, List.map_cons, List.map_nil, List.length_cons, List.length_nil, List.cons_append, List.nil_append, List.append_nil, List.replicate, List.set_cons_zero, List.set_cons_succ, List.getElem?_cons_zero, List.getElem?_cons_succ, Option.some.injEq, V.int.injEq, V.bl.injEq, V.ref.injEq, V.ty.injEq, V.str.injEq, List.cons.injEq, exists_eq_left', exists_and_left, exists_eq_left, true_and, and_true, true_or, or_true, Nat.reduceAdd, Nat.reduceSub, Int.reduceToNat, Int.reduceNeg, Int.reduceMul, Int.reduceAdd, Int.reduceSub, Bool.not_eq_true, Bool.not_not, forall_const, $ls,*])) | simp only [FI, Ee, Fb, EI, EE, Ed, FX, EM, Do, CI, ED, DC, CS, tOp, tUn, Dt, tC, CN, CK, Dy, CA, tCB, CH, CQ, rI, rI0, rU, rEq, rNe, FD, D4, E3, tOr, B8, Er, CO, tB, tIf, D6, Dx, GL, FV, GZ, CJ, BB, BH, Bk, E1, EU, Ca, Bm, Bl, Ey, BE, CY, Ef, CF, Dz, Ep, C2, BF, CC, CL, C6, BX, Bp, tSl, Ec, Az, CG, D1, Cb, rIn, Em, Cg, Cs, Bi, Bh, D2, Cd, Eg, Bf, Cj, Ch, Cw, Ct, L2.start, cxK, exists_and_right, and_assoc, Int.reduceLE, Int.reduceLT, Nat.reduceLT, Nat.reducePow, Int.reducePow, DL, EF, false_and, exists_false, and_false, if_true, if_false, decide_true, decide_false, Bool.false_eq_true, Bool.not_true, Bool.not_false, List.map_cons, List.map_nil, List.length_cons, List.length_nil, List.cons_append, List.nil_append, List.append_nil, List.replicate, List.set_cons_zero, List.set_cons_succ, List.getElem?_cons_zero, List.getElem?_cons_succ, Option.some.injEq, V.int.injEq, V.bl.injEq, V.ref.injEq, V.ty.injEq, V.str.injEq, List.cons.injEq, exists_eq_left', exists_and_left, exists_eq_left, true_and, and_true, true_or, or_true, Nat.reduceAdd, Nat.reduceSub, Int.reduceToNat, Int.reduceNeg, Int.reduceMul, Int.reduceAdd, Int.reduceSub, Bool.not_eq_true, Bool.not_not, forall_const, $ls,*])
def top (i : Nat) : Stmt := PySem.Challenge.pw_throwgate_k32_fractions_as_texts.main.body.getD i (.Pass ⟨0, 0, 0, 0⟩)
abbrev As : Stmt := top 4
abbrev Dq : Stmt := top 5
abbrev BU : Stmt := top 9
abbrev BY : Stmt := top 10
abbrev A3 : Stmt := top 11
abbrev Aw : Stmt := top 12
abbrev Fi : Stmt := top 14
abbrev Eo : Stmt := top 15
abbrev DJ : Stmt := top 16
abbrev Br : Stmt := top 17
abbrev Dg : Stmt := top 18
abbrev Bx : Stmt := top 19
abbrev F0 : Stmt := top 20
abbrev qv : Program := { PySem.Challenge.pw_throwgate_k32_fractions_as_texts with main := { PySem.Challenge.pw_throwgate_k32_fractions_as_texts.main with body := [F0] } }
def Ik : List Str := [Str.ofString "BeachError", Str.ofString "BadRow", Str.ofString "greatest_divisor", Str.ofString "lowest", Str.ofString "FIGURES", Str.ofString "MOST_FIGURES", Str.ofString "are_figures", Str.ofString "read_number"]
def JB : List Str := [Str.ofString "read_fraction", Str.ofString "write_fraction", Str.ofString "_law_at", Str.ofString "_law_gcd", Str.ofString "_law_whole", Str.ofString "_law_numbers", Str.ofString "_law_read", Str.ofString "_law_written"]
def DG : List Str := Ik ++ JB
def addrs : List Addr := [2, 3, 6, 15, 22, 23, 24, 25, 28, 35, 36, 37, 40, 42, 43, 45, 46, 47, 49, 50, 52, 53, 54, 57, 58, 59, 61, 62, 64, 65, 66, 68, 69, 71, 72, 73, 76, 77, 78, 80, 81, 83, 84, 85, 87, 88, 90, 91, 92, 94, 95, 97, 98, 99, 101, 102, 104, 105, 106, 108, 109, 111, 112, 113, 115, 116, 118, 119, 120, 122, 123, 125, 126]
def obs0 (K : PySem.W.Frag) : List (Bool) := [IC K "BeachError", IC K "BadRow", DU K "abs", DU K "all", DU K "bool", DU K "int", DU K "isinstance", DU K "len"]
def val0 : List (Bool) := [true, true, true, true, true, true, true, true]
def obs1 (K : PySem.W.Frag) : List (Bool) := [DU K "range", DU K "str", DU K "tuple"]
def val1 : List (Bool) := [true, true, true]
def obs2 (K : PySem.W.Frag) : List (Option Bool) := [Ii K "BadRow" "BadRow"]
def val2 : List (Option Bool) := [some true]
def obs3 (K : PySem.W.Frag) : List (Seen) := [B7 K "greatest_divisor", B7 K "lowest", B7 K "are_figures", B7 K "read_number", B7 K "read_fraction", B7 K "write_fraction", B7 K "_law_at", B7 K "_law_gcd"]
def val3 : List (Seen) := [Bu "greatest_divisor" "greatest_divisor" As [], Bu "lowest" "lowest" Dq [], Bu "are_figures" "are_figures" BU [], Bu "read_number" "read_number" BY [], Bu "read_fraction" "read_fraction" A3 [], Bu "write_fraction" "write_fraction" Aw [], Bu "_law_at" "_law_at" Fi [], Bu "_law_gcd" "_law_gcd" Eo []]
def obs4 (K : PySem.W.Frag) : List (Seen) := [B7 K "_law_whole", B7 K "_law_numbers", B7 K "_law_read", B7 K "_law_written", B7 K "law"]
def val4 : List (Seen) := [Bu "_law_whole" "_law_whole" DJ [], Bu "_law_numbers" "_law_numbers" Br [], Bu "_law_read" "_law_read" Dg [], Bu "_law_written" "_law_written" Bx [], Bu "law" "law" F0 []]
def obs5 (K : PySem.W.Frag) : List (Option Int) := [Ig K "MOST_FIGURES"]
def val5 : List (Option Int) := [some (9)]
def obs6 (K : PySem.W.Frag) : List (Option Str) := [Iz K "FIGURES"]
def val6 : List (Option Str) := [some "0123456789"]
def E8 (K : PySem.W.Frag) : List (Bool) × List (Bool) × List (Option Bool) × List (Seen) × List (Seen) × List (Option Int) × List (Option Str) := (obs0 K, obs1 K, obs2 K, obs3 K, obs4 K, obs5 K, obs6 K)
def Gb : List (Bool) × List (Bool) × List (Option Bool) × List (Seen) × List (Seen) × List (Option Int) × List (Option Str) := (val0, val1, val2, val3, val4, val5, val6)
noncomputable def Hh (w : World) (os : PySem.OsState) := DB PySem.Challenge.pw_throwgate_k32_fractions_as_texts qv DG (fun _ => ()) 883 w os
noncomputable def Fu := some (true, PySem.W.openGood qv DG, ())
noncomputable def HV (w : World) (os : PySem.OsState) := HK PySem.Challenge.pw_throwgate_k32_fractions_as_texts (fun s => E8 (HF addrs s)) 883 w os
noncomputable def GE := some Gb
theorem Ga : Hh = Hh := rfl
theorem FY : Fu = Fu := rfl
name_quick runAY for TG.Hh by TG.Ga
name_quick goodAY for TG.Fu by TG.FY
theorem runA0 (w : World) (os : PySem.OsState) : PySem.W.Fast.runAY w os = PySem.W.Fast.goodAY := by kernel_rfl
theorem runA1 (w : World) (os : PySem.OsState) : Hh w os = Fu := ((congrFun (congrFun PySem.W.Fast.runAY_eq w) os).trans (runA0 w os)).trans PySem.W.Fast.goodAY_eq.symm
theorem GO : HV = HV := rfl
theorem FS : GE = GE := rfl
name_quick runBY for TG.HV by TG.GO
name_quick goodBY for TG.GE by TG.FS
theorem runB0 (w : World) (os : PySem.OsState) : PySem.W.Fast.runBY w os = PySem.W.Fast.goodBY := by kernel_rfl
theorem runB1 (w : World) (os : PySem.OsState) : HV w os = GE := ((congrFun (congrFun PySem.W.Fast.runBY_eq w) os).trans (runB0 w os)).trans PySem.W.Fast.goodBY_eq.symm
theorem runs (w : World) (os : PySem.OsState) : DB PySem.Challenge.pw_throwgate_k32_fractions_as_texts qv DG (fun s => E8 (HF addrs s)) 883 w os = some (true, PySem.W.openGood qv DG, Gb) := Fk (runA1 w os) (runB1 w os)
theorem left : PySem.W.LeftO PySem.Challenge.pw_throwgate_k32_fractions_as_texts qv DG (fun _ => true) (fun s => E8 (Kof addrs s.heap)) (fun _ => Gb) 1826 :=
 Hs (M := 883) (obs := fun s => E8 (HF addrs s)) (by kernel_rfl) rfl (fun _ => rfl) rfl (fun s => congrArg E8 (HY addrs s)) runs
set_option genInjectivity false in
set_option genSizeOfSpec false in
structure Tx (K : PySem.W.Frag) (mg : Str → Option Value) where
 BA : Addr
 Hw : mg "BeachError" = some (.ref BA)
 Ho : Ez K BA
 BI : Addr
 Dc : mg "BadRow" = some (.ref BI)
 FB : Ez K BI
 DP : PySem.W.exmOne K (.ref BI) (.ref BI) = some true
 BJ : Addr
 A8 : FuncData
 Aa : D K mg "greatest_divisor" As ["one", "two"] BJ A8
 FJ : Addr
 EA : FuncData
 C1 : D K mg "lowest" Dq ["top", "bottom"] FJ EA
 CM : Addr
 Bz : FuncData
 Ay : D K mg "are_figures" BU ["text"] CM Bz
 CD : Addr
 Bs : FuncData
 AK : D K mg "read_number" BY ["text"] CD Bs
 Bo : Addr
 Bd : FuncData
 Ao : D K mg "read_fraction" A3 ["text"] Bo Bd
 Bb : Addr
 BP : FuncData
 Ai : D K mg "write_fraction" Aw ["top", "bottom"] Bb BP
 Gi : Addr
 Fx : FuncData
 Av : D K mg "_law_at" Fi ["_law_script", "_law_k"] Gi Fx
 Fv : Addr
 E7 : FuncData
 DS : D K mg "_law_gcd" Eo ["_law_one", "_law_two"] Fv E7
 D8 : Addr
 Dj : FuncData
 B1 : D K mg "_law_whole" DJ ["_law_found"] D8 Dj
 DM : Addr
 Ck : FuncData
 Af : D K mg "_law_numbers" Br ["_law_found", "_law_due"] DM Ck
 FH : Addr
 ES : FuncData
 Al : D K mg "_law_read" Dg ["_law_text"] FH ES
 DN : Addr
 Cc : FuncData
 BS : D K mg "_law_written" Bx ["_law_top", "_law_bottom"] DN Cc
 IM : Addr
 HB : FuncData
 d_law : D K mg "law" F0 ["_law_script"] IM HB
 EH : Value
 Gd : mg "FIGURES" = some EH
 GK : RelV (.str "0123456789") EH
 Bw : Value
 Dk : mg "MOST_FIGURES" = some Bw
 DZ : RelV (.int (9)) Bw
 HD : mg "abs" = none
 z_all : mg "all" = none
 IW : mg "bool" = none
 IF : mg "int" = none
 BC : mg "isinstance" = none
 DO : mg "len" = none
 Hi : mg "range" = none
 Bn : mg "str" = none
 Ht : mg "tuple" = none
def Tx.err {K : PySem.W.Frag} {mg : Str → Option Value} (T : Tx K mg) : Err → Value
 | .badrow => .ref T.BI
 | _ => .none
section
variable {P : Program} {w : World} {K : PySem.W.Frag} {mg : Str → Option Value} {base : Heap}
theorem AM : AY ["one", "two", "divisor", "rest", "next_rest"] ["one", "two"] (AG As) := by walk_at "SC"
def A6 : Sp := fun vs H Q _ => ∃ a b : Int, vs = [.int a, .int b] ∧ 0 ≤ a ∧ 0 ≤ b ∧ Q (.int (Int.gcd a b)) H
def W_gd (a b : Int) (H : Hp) : Nat → St → Hp → Prop := fun m σ H' => ∃ (d r : Int) (x : Option V), m = r.toNat ∧ σ = [some (.int a), some (.int b), some (.int d), some (.int r), x] ∧ H' = H ∧ 0 ≤ d ∧ 0 ≤ r ∧ Int.gcd d r = Int.gcd a b
theorem B6 (T : Tx K mg) : BL P w K mg base CX0 1 T.BJ T.A8 ["one", "two"] A6 := by
 refine T.Aa.F.ok AM (fun vs H Q E h => ?_) (fun cdv A outer s H vs Q E hr h => ?_)
 ·obtain ⟨a, b, rfl, ha, hb, k⟩ := h
  rfl
 ·obtain ⟨a, b, rfl, ha, hb, k⟩ := h
  have hu := Bc hr
  refine ⟨_, (AC (AN (i := 2) AM.nd rfl (by walk_at "O") (pv 0))
   (AC (AN (i := 3) AM.nd rfl (by walk_at "O") (pv 1))
   (AC (FQ PassesOwn.never (Ad FC (pv 3) AI (Ar _))
    (AC (AN (i := 4) AM.nd rfl (by walk_at "O") (AH Fp (pv 2) (pv 3)))
     (AC (AN (i := 2) AM.nd rfl (by walk_at "O") (pv 3))
     (AF (AN (i := 3) AM.nd rfl (by walk_at "O") (pv 4))))))
   (AF (AS (pv 2)))))), ?_⟩
  walk_at "RD"
  refine ⟨W_gd a b H, ⟨_, a, b, none, rfl, rfl, rfl, ha, hb, rfl⟩, ?_⟩
  rintro m σ H' ⟨d, r, x, rfl, rfl, rfl, hd, hr', e⟩
  walk_at "RDE"
  by_cases h0 : r = 0
  ·subst h0
   simp only [decide_true, Bool.not_true, Bool.false_eq_true, if_false]
   walk_at "RD"
   rw [← e, EL hd] at k
   exact k
  ·simp only [h0, decide_false, Bool.not_false, if_true]
   refine ⟨_, fun _ _ h => h, ?_⟩
   walk_at "RD"
   have hp : 0 < r := by omega
   have hf := Ft (d := d) hp
   refine ⟨h0, _, ?_, r, d.fmod r, _, rfl, rfl, rfl, hr', hf.1, (FL hd hp).trans e⟩
   omega
theorem C9 : AY ["top", "bottom", "divisor"] ["top", "bottom"] (AG Dq) := by walk_at "SC"
def GF : Sp := fun vs H Q _ => ∃ t b : Int, vs = [.int t, .int b] ∧ b ≠ 0 ∧ Sm b ∧ ∀ p H' x y, AE H H' → H' p = some (.tup [.int x, .int y]) → EY t b x y → Q (.ref p) H'
def C_lo (t b : Int) (H : Hp) : St → Hp → Prop := fun σ H' => ∃ d : Int, σ = [some (.int t), some (.int b), some (.int d)] ∧ H' = H ∧ d = if b < 0 then -((Int.gcd t b : Nat) : Int) else ((Int.gcd t b : Nat) : Int)
theorem GQ (T : Tx K mg) : BL P w K mg base CX0 2 T.FJ T.EA ["top", "bottom"] GF := by
 refine T.C1.F.ok C9 (fun vs H Q E h => ?_) (fun cdv A outer s H vs Q E hr h => ?_)
 ·obtain ⟨t, b, rfl, hb, hs, k⟩ := h
  rfl
 ·obtain ⟨t, b, rfl, hb, hs, k⟩ := h
  have hu := Bc hr
  refine ⟨_, (AC (AN (i := 2) C9.nd rfl (by walk_at "O") (AT (B6 T) (hr.mono (by decide)) (by rfl) T.Aa.m T.Aa.F.kp T.Aa.b .nil A9 (AA (AR Dv (by rfl) T.HD FT (AA (pv 0) AB)) (AA (AR Dv (by rfl) T.HD FT (AA (pv 1) AB)) AB))))
   (Fo (A7 (Ad G2 (pv 1) AI (Ar _)) (AF (AN (i := 2) C9.nd rfl (by walk_at "O") (IN HA (pv 2))))
    AZ)
   (AF (AS (B5 (AA (AH FG (pv 0) (pv 2)) (AA (AH FG (pv 1) (pv 2)) AB))))))), ?_⟩
  delta A6
  refine ⟨by split <;> omega, by split <;> omega, C_lo t b H, ?_, ?_⟩
  ·rw [Hn]
   walk_at "RD"
   by_cases hn : b < 0
   ·rw [if_pos (decide_eq_true hn)]
    exact ⟨_, rfl, rfl, by rw [if_pos hn]⟩
   ·rw [if_neg (by simp [hn])]
    exact ⟨_, rfl, rfl, by rw [if_neg hn]⟩
  ·rintro σ' H' ⟨d, rfl, rfl, hd⟩
   obtain ⟨L, d0⟩ := JE hb hd
   have ds : Sm d := by
    refine Nat.lt_of_le_of_lt ?_ hs
    have h1 : d.natAbs = Int.gcd t b := by rw [hd]; split <;> omega
    rw [h1]
    exact Nat.le_of_dvd (by omega) (Int.gcd_dvd_natAbs_right t b)
   walk_at "RD"
   exact ⟨d0, ds, d0, ds, by decide, fun p H1 hp hs he => k p _ _ _ hs he L⟩
theorem Dp : AY ["text"] ["text"] (AG BU) := by walk_at "SC"
def F7 (c : Nat) : Bool := decide (48 ≤ c ∧ c ≤ 57)
theorem Iv {c : Nat} : decide (c ∈ [48, 49, 50, 51, 52, 53, 54, 55, 56, 57]) = F7 c := by
 unfold F7
 refine decide_eq_decide.mpr ?_
 simp only [List.mem_cons, List.not_mem_nil, or_false]
 omega
theorem Hr {l : List Nat} : (l.map F7).all id = decide (∀ c ∈ l, 48 ≤ c ∧ c ≤ 57) := by
 rw [Bool.eq_iff_iff, List.all_map, List.all_eq_true, decide_eq_true_eq]
 exact ⟨fun h c hc => of_decide_eq_true (h c hc), fun h c hc => decide_eq_true (h c hc)⟩
theorem Hv {l : List Nat} (h : ∀ c ∈ l, c < 128) : (tx l).cps.all (· < 128) = true := by
 show l.toArray.all (· < 128) = true
 rw [List.all_toArray, List.all_eq_true]
 exact fun c hc => decide_eq_true (h c hc)
theorem Il {l : List Nat} {i : Nat} (h : i < l.length) : sg1 (tx l) i = .str (tx [l[i]]) := by
 unfold sg1
 congr 2
 show #[l.toArray.getD i 0] = #[l[i]]
 rw [Array.getD_eq_getD_getElem?, List.getElem?_toArray, List.getElem?_eq_getElem h]
 rfl
theorem txz {l : List Nat} (h : l.length ≤ 1000000) : (tx l).length ≤ sizeLine := by rw [AO, PySem.sizeLine_eq]; omega
def Dm (K : PySem.W.Frag) : Sp := fun vs H Q _ => ∃ l : List Nat, vs = [.str (tx l)] ∧ (∀ c ∈ l, c < 128) ∧ l.length ≤ 100000 ∧ ∀ H', AE H H' → Q (.bl (decide (1 ≤ l.length ∧ l.length ≤ 9 ∧ ∀ c ∈ l, 48 ≤ c ∧ c ≤ 57))) H'
theorem DY (T : Tx K mg) : BL P w K mg base CX0 1 T.CM T.Bz ["text"] (Dm K) := by
 refine T.Ay.F.ok Dp (fun vs H Q E h => ?_) (fun cdv A outer s H vs Q E hr h => ?_)
 ·obtain ⟨l, rfl, asc, hz, k⟩ := h
  rfl
 ·obtain ⟨l, rfl, asc, hz, k⟩ := h
  have hu := Bc hr
  refine ⟨_, (AC (A7 (Du (Ad G2 (AR Cf (by rfl) T.DO By (AA (pv 0) AB)) AI (Ar _)) (CT (Ad G7 (AR Cf (by rfl) T.DO By (AA (pv 0) AB)) (Fq (v := .int (9)) (by rfl) T.Dk T.DZ) (Ar _)))).pt (AF (AS CP))
    AZ)
   (AF (AS (AR (Gs (by rfl)) (by rfl) T.z_all Iq (AA (Fn rfl (⟨rfl, by decide +kernel, by decide +kernel, by decide +kernel, rfl, by decide +kernel, by with_unfolding_all rfl, by rfl, by rfl, by rfl⟩ : Ap _ _ "sign" [] []) (Ij (pv 0)) (fun _ _ _ _  => (HW GU (pv 0) (Fq (v := .str "0123456789") (by rfl) T.Gd T.GK) (by with_unfolding_all rfl))) (fun _ _ _ _ => F6)) AB))))), ?_⟩
  walk_at "Q"
  walk_at "RD"
  have hz2 : (tx l).length ≤ sizeLine := txz (by omega)
  refine ⟨hz2, ?_⟩
  rw [AO] at hz2 ⊢
  by_cases h1 : l.length < 1
  ·rw [if_pos (decide_eq_true (by omega))]
   rw [decide_eq_false (by omega)] at k
   exact k _ (AE.refl _)
  rw [if_neg (fun z => h1 (by have := of_decide_eq_true z; omega))]
  refine ⟨hz2, ?_⟩
  by_cases h9 : 9 < l.length
  ·rw [if_pos (decide_eq_true (by omega))]
   rw [decide_eq_false (by omega)] at k
   exact k _ (AE.refl _)
  rw [if_neg (fun z => h9 (by have := of_decide_eq_true z; omega))]
  walk_at "NX"
  delta iStr
  refine ⟨Hv asc, fun D nD => ?_⟩
  refine HE (fun i ys H' => AE H H' ∧ H' D = some (.lst ys) ∧ ys = ((l.take i).map F7).map V.bl) ⟨At nD, AW, rfl⟩ ?_ ?_
  ·rintro i ys H1 hi hy ⟨s1, e1, e2⟩
   have hi : i < l.length := hi
   have es : (tx l).cps.size = l.length := List.size_toArray ..
   rw [Il hi]
   walk_at "RD"
   rw [o_fig, Ie, Iv]
   refine EO.of (by rw [es]; exact hz2) (by rw [es]; exact hi) hy e1 ⟨s1.updFresh nD, AW, ?_⟩
   rw [e2, List.take_succ_eq_append_getElem hi, List.map_append, List.map_append]
   rfl
  ·rintro ys H1 hy ⟨s1, e1, e2⟩
   have es : (tx l).cps.size = l.length := List.size_toArray ..
   rw [es, List.take_length] at e2
   rw [e2] at e1
   refine ⟨_, SqL.of e1, ?_⟩
   rw [Hr]
   have := k _ s1
   rw [show decide (1 ≤ l.length ∧ l.length ≤ 9 ∧ ∀ c ∈ l, 48 ≤ c ∧ c ≤ 57) = decide (∀ c ∈ l, 48 ≤ c ∧ c ≤ 57) from decide_eq_decide.mpr ⟨fun z => z.2.2, fun z => ⟨by omega, by omega, z⟩⟩] at this
   exact this
theorem BM : AY ["text", "figures"] ["text"] (AG BY) := by walk_at "SC"
theorem Fj : Str.ofString "0" = tx [48] := by rfl
theorem Hl : Str.ofString "-" = tx [45] := by rfl
theorem tyS {K : PySem.W.Frag} {x : Str} {H : Hp} : tyV K "str" (.str x) H := rfl
def DT {K : PySem.W.Frag} {mg : Str → Option Value} (T : Tx K mg) : Sp := fun vs H Q E => ∃ l : List Nat, vs = [.str (tx l)] ∧ (∀ c ∈ l, c < 128) ∧ l.length ≤ 100000 ∧ (rdN l = none → ∀ H', AE H H' → E (T.err .badrow) none H') ∧ ∀ n, rdN l = some n → ∀ H', AE H H' → Q (.int n) H'
theorem BK (T : Tx K mg) : BL P w K mg base (CXE P w) 2 T.CD T.Bs ["text"] (DT T) := by
 refine T.AK.F.okX BM (fun vs H Q E h => ?_) (fun cdv A outer s H vs Q E hr h => ?_)
 ·obtain ⟨l, rfl, asc, hz, kE, k⟩ := h
  rfl
 ·obtain ⟨l, rfl, asc, hz, kE, k⟩ := h
  have hu := Bc hr
  refine ⟨_, (AC (A7 (Ad F9 (pv 0) AQ (Ar _)) (AF (AS AI))
    AZ)
   (AC (AN (i := 1) BM.nd rfl (by walk_at "O") (pv 0))
   (AC (A7 (BW (F4 PySem.F.plainAttrs_str PySem.F.slot_str_startswith PySem.F.type_str_startswith EC (pv 0) (AA AQ AB))) (AF (AN (i := 1) BM.nd rfl (by walk_at "O") (Gy Im (pv 0) (Hk AI) Ha)))
    AZ)
   (AC (A7 (Du (B0 (BW (AT (DY T) (hr.mono (by decide)) (by rfl) T.Ay.m T.Ay.F.kp T.Ay.b .nil A9 (AA (pv 1) AB)))) (CT (BW (F4 PySem.F.plainAttrs_str PySem.F.slot_str_startswith PySem.F.type_str_startswith EC (pv 1) (AA AQ AB))))).pt (AF (E9 IJ rfl T.FB (by rfl) T.Dc (AA AQ AB)))
    AZ)
   (AF (AS (AV D7 (by rfl) T.IF HC (AA (pv 0) AB)))))))), ?_⟩
  have hz2 : (tx l).length ≤ sizeLine := txz (by omega)
  walk_at "Q"
  walk_at "RD"
  rw [Fj]
  by_cases h0 : l = [48]
  ·rw [if_pos (decide_eq_true (by rw [h0]))]
   exact k 0 (by unfold rdN; rw [if_pos h0]) _ (AE.refl _)
  rw [if_neg (fun z => h0 (Ej.mp (of_decide_eq_true z)))]
  walk_at "NX"
  walk_at "Q"
  walk_at "RD"
  walk_at "NX"
  walk_at "Q"
  have bl : (bare l).length ≤ l.length := by
   unfold bare
   split
   ·rw [List.length_drop]; omega
   ·omega
  have bm : ∀ c ∈ bare l, c ∈ l := fun c hc => by
   unfold bare at hc
   split at hc
   ·exact List.mem_of_mem_drop hc
   ·exact hc
  have rest : M [some (.str (tx l)), some (.str (tx (bare l)))] H := by
   refine hM _ _ ?_
   clear hM M
   walk_at "Q"
   walk_at "RD"
   refine ⟨bare l, rfl, fun c hc => asc c (bm c hc), by omega, fun H1 s1 => ⟨_, rfl, ?_⟩⟩
   by_cases hf : 1 ≤ (bare l).length ∧ (bare l).length ≤ 9 ∧ ∀ c ∈ bare l, 48 ≤ c ∧ c ≤ 57
   ·rw [decide_eq_true hf, if_neg (by decide)]
    delta tBM Ei
    refine ⟨tyS, ?_⟩
    rw [Fj, Dh]
    by_cases hh : (bare l).head? = some 48
    ·rw [if_pos (by rw [hh]; rfl)]
     exact ⟨by decide, kE (by unfold rdN; rw [if_neg h0, if_neg (fun z => z.2.2.2 hh)]) _ s1⟩
    ·rw [if_neg (fun z => hh (by simpa using z))]
     walk_at "NX"
     walk_at "RD"
     have hr : rdN l = some (if DI l then -(NumText.digitsVal (bare l) : Int) else NumText.digitsVal (bare l)) := by
      unfold rdN
      rw [if_neg h0, if_pos ⟨hf.1, hf.2.1, hf.2.2, hh⟩]
     have hb0 : bare l ≠ [] := fun z => by rw [z] at hf; exact absurd hf.1 (by simp)
     refine ⟨_, ?_, by rw [AO]; have := hf.2.1; unfold bare at this; split at this <;> (try rw [List.length_drop] at this) <;> omega, k _ hr _ s1⟩
     by_cases hn : DI l = true
     ·rw [if_pos hn]
      have e : (tx l).cps.toList = 45 :: bare l := by
       show l = _
       unfold bare
       rw [if_pos hn]
       unfold DI at hn
       cases l with
       | nil => cases hn
       | cons a r =>
        have : a = 45 := by simpa using hn
        rw [this]
        rfl
      exact intText_neg e hf.2.2 hb0 (by rw [AO]; have : l.length = (bare l).length + 1 := congrArg List.length e; omega)
     ·rw [if_neg hn]
      have e : bare l = l := by unfold bare; rw [if_neg hn]
      have h2 := hf.2.2
      rw [e] at h2 hb0 ⊢
      exact intText_digits (x := tx l) h2 hb0 (by rw [AO]; rw [e] at hf; omega)
   ·rw [decide_eq_false hf, if_pos (by decide)]
    exact ⟨by decide, kE (by unfold rdN; rw [if_neg h0, if_neg (fun z => hf ⟨z.1, z.2.1, z.2.2.1⟩)]) _ s1⟩
  clear hM
  delta tBM Ei
  refine ⟨tyS, ?_⟩
  rw [Hl, Dh]
  by_cases hn : DI l = true
  ·have eb : bare l = l.drop 1 := by unfold bare; rw [if_pos hn]
   rw [eb] at rest
   unfold DI at hn
   rw [if_pos hn]
   refine ⟨_, rfl, hz2, ?_⟩
   rw [show (some 1 : Option Int) = some ((1 : Nat) : Int) from rfl, Fc]
   exact rest
  ·have eb : bare l = l := by unfold bare; rw [if_neg hn]
   rw [eb] at rest
   unfold DI at hn
   rw [if_neg hn]
   exact rest
theorem Be : AY ["text", "parts"] ["text"] (AG A3) := by walk_at "SC"
theorem HG : Str.ofString "/" = tx [47] := by rfl
theorem Bv {c : Nat} : ∀ {l : List Nat} {p : List Nat}, p ∈ Ag c l → (∀ x ∈ p, x ∈ l) ∧ p.length ≤ l.length
 | [], p, h => by
  rw [List.mem_singleton.mp h]
  exact ⟨fun _ z => z, Nat.le_refl _⟩
 | a :: r, p, h => by
  unfold Ag at h
  split at h
  ·rcases List.mem_cons.mp h with z | z
   ·rw [z]; exact ⟨fun _ z => absurd z (by simp), Nat.zero_le _⟩
   ·have := Bv z
    exact ⟨fun x hx => List.mem_cons_of_mem _ (this.1 x hx), by rw [List.length_cons]; omega⟩
  ·split at h
   ·rename_i e
    exact absurd e (Eh _ _)
   ·rename_i q qs e
    have hq : q ∈ Ag c r := by rw [e]; exact List.mem_cons_self
    rcases List.mem_cons.mp h with z | z
    ·have := Bv hq
     rw [z]
     refine ⟨fun x hx => ?_, by rw [List.length_cons, List.length_cons]; omega⟩
     rcases List.mem_cons.mp hx with w | w
     ·rw [w]; exact List.mem_cons_self
     ·exact List.mem_cons_of_mem _ (this.1 x w)
    ·have hp : p ∈ Ag c r := by rw [e]; exact List.mem_cons_of_mem _ z
     have := Bv hp
     exact ⟨fun x hx => List.mem_cons_of_mem _ (this.1 x hx), by rw [List.length_cons]; omega⟩
def DH {K : PySem.W.Frag} {mg : Str → Option Value} (T : Tx K mg) : Sp := fun vs H Q E => ∃ l : List Nat, vs = [.str (tx l)] ∧ (∀ c ∈ l, c < 128) ∧ l.length ≤ 100000 ∧ (rdF l = none → ∀ H', AE H H' → E (T.err .badrow) none H') ∧ ∀ x y, rdF l = some (x, y) → ∀ D H', H D = none → AE H H' → H' D = some (.tup [.int x, .int y]) → Q (.ref D) H'
theorem C7 (T : Tx K mg) : BL P w K mg base (CXE P w) 3 T.Bo T.Bd ["text"] (DH T) := by
 refine T.Ao.F.okX Be (fun vs H Q E h => ?_) (fun cdv A outer s H vs Q E hr h => ?_)
 ·obtain ⟨l, rfl, asc, hz, kE, k⟩ := h
  rfl
 ·obtain ⟨l, rfl, asc, hz, kE, k⟩ := h
  have hu := Bc hr
  refine ⟨_, (AC (AN (i := 1) Be.nd rfl (by walk_at "O") (F4 PySem.F.plainAttrs_str PySem.F.slot_str_split PySem.F.type_str_split G4 (pv 0) (AA AQ AB)))
   (AC (A7 (Ad G7 (AR Ah (by rfl) T.DO By (AA (pv 1) AB)) AI (Ar _)) (AF (E9 IJ rfl T.FB (by rfl) T.Dc (AA AQ AB)))
    AZ)
   (AC (A7 (Ad F9 (AR Ah (by rfl) T.DO By (AA (pv 1) AB)) AI (Ar _)) (AF (AS (B5 (AA (AT (BK T) (hr.mono (by decide)) (by rfl) T.AK.m T.AK.F.kp T.AK.b .nil Gn (AA (pv 0) AB)) (AA AI AB)))))
    AZ)
   (AF (AS (B5 (AA (AT (BK T) (hr.mono (by decide)) (by rfl) T.AK.m T.AK.F.kp T.AK.b .nil Gn (AA (CB Cy (pv 1) AI (fun _ _ => rfl)) AB)) (AA (AT (BK T) (hr.mono (by decide)) (by rfl) T.AK.m T.AK.F.kp T.AK.b .nil Gn (AA (CB Cy (pv 1) AI (fun _ _ => rfl)) AB)) AB)))))))), ?_⟩
  walk_at "Q"
  delta tBM G9
  refine ⟨tyS, l, rfl, 47, rfl, by rw [PySem.sizeLine_eq]; omega, fun P H1 n1 s1 e1 => ?_⟩
  walk_at "NX"
  have lc := DW 47 l
  have asp : ∀ p ∈ Ag 47 l, (∀ c ∈ p, c < 128) ∧ p.length ≤ 100000 := fun p hp => ⟨fun c hc => asc c ((Bv hp).1 c hc), by have := (Bv hp).2; omega⟩
  have ef : rdF l = match Ag 47 l with | [_] => (rdN l).map fun x => (x, 1) | [a, b] => (match rdN a, rdN b with | some x, some y => some (x, y) | _, _ => none) | _ => none := rfl
  have hne := Eh 47 l
  generalize Ag 47 l = ps at *
  walk_at "Q"
  walk_at "RD"
  refine ⟨_, .inl (SqL.of e1), ?_⟩
  rw [List.length_map]
  match ps, hne with
  | [p], _ =>
   rw [if_neg (by simp)]
   walk_at "NX"
   walk_at "Q"
   walk_at "RD"
   refine ⟨_, .inl (SqL.of e1), ?_⟩
   rw [if_pos (by simp)]
   refine ⟨l, rfl, asc, hz, fun h H2 s2 => kE (by rw [ef, h]; rfl) _ (s1.trans s2), fun n hn H2 s2 => ⟨by decide, fun D H3 n3 s3 e3 => ?_⟩⟩
   exact k n 1 (by rw [ef, hn]; rfl) D H3 (s1.free (s2.free n3)) (s1.trans (s2.trans s3)) e3
  | [p, q], _ =>
   rw [if_neg (by simp)]
   walk_at "NX"
   walk_at "Q"
   walk_at "RD"
   refine ⟨_, .inl (SqL.of e1), ?_⟩
   rw [if_neg (by simp)]
   walk_at "NX"
   walk_at "RD"
   have hp := asp p (by simp)
   have hq := asp q (by simp)
   refine ⟨_, SqL.of e1, _, rfl, p, rfl, hp.1, hp.2, fun h H2 s2 => kE (by rw [ef]; simp only [h]) _ (s1.trans s2), fun x hx H2 s2 => ?_⟩
   refine ⟨_, SqL.of (s2.get e1), _, rfl, q, rfl, hq.1, hq.2, fun h H3 s3 => kE (by rw [ef]; simp only [hx, h]) _ (s1.trans (s2.trans s3)), fun y hy H3 s3 => ⟨by decide, fun D H4 n4 s4 e4 => ?_⟩⟩
   exact k x y (by rw [ef]; simp only [hx, hy]) D H4 (s1.free (s2.free (s3.free n4))) (s1.trans (s2.trans (s3.trans s4))) e4
  | p :: q :: r :: rs, _ =>
   rw [if_pos (decide_eq_true (by simp only [List.length_cons]; omega))]
   exact ⟨by decide, kE (by rw [ef]) _ s1⟩
theorem BN : AY ["top", "bottom", "fraction"] ["top", "bottom"] (AG Aw) := by walk_at "SC"
theorem lgT {i : Int} {n : Nat} (h : i.natAbs < 2 ^ n) (hn : 0 < n) (h2 : n ≤ 1900) : i.natAbs.log2 < 1920 := by
 rcases Nat.eq_zero_or_pos i.natAbs with h0 | hp
 ·rw [h0]; decide
 ·have := (Nat.log2_lt (Nat.ne_of_gt hp)).mpr h
  omega
def Cv (K : PySem.W.Frag) : Sp := fun vs H Q _ => ∃ t b : Int, vs = [.int t, .int b] ∧ b ≠ 0 ∧ t.natAbs ≤ 10 ^ 40 ∧ b.natAbs ≤ 10 ^ 40 ∧ ∀ x y H', AE H H' → EY t b x y → Q (.str (tx (frT x y))) H'
theorem Cu (T : Tx K mg) : BL P w K mg base CX0 3 T.Bb T.BP ["top", "bottom"] (Cv K) := by
 refine T.Ai.F.ok BN (fun vs H Q E h => ?_) (fun cdv A outer s H vs Q E hr h => ?_)
 ·obtain ⟨t, b, rfl, hb, ht, hbb, k⟩ := h
  rfl
 ·obtain ⟨t, b, rfl, hb, ht, hbb, k⟩ := h
  have hu := Bc hr
  refine ⟨_, (AC (AN (i := 2) BN.nd rfl (by walk_at "O") (AT (GQ T) (hr.mono (by decide)) (by rfl) T.C1.m T.C1.F.kp T.C1.b .nil A9 (AA (pv 0) (AA (pv 1) AB))))
   (AC (A7 (Ad F9 (CB Dd (pv 2) AI (fun _ _ => rfl)) AI (Ar _)) (AF (AS (AV AL (by rfl) T.Bn A5 (AA (CB Dd (pv 2) AI (fun _ _ => rfl)) AB))))
    AZ)
   (AF (AS (F4 PySem.F.plainAttrs_str PySem.F.slot_str_join PySem.F.type_str_join HX AQ (AA (Fn rfl (⟨rfl, by decide +kernel, by decide +kernel, by decide +kernel, rfl, by decide +kernel, by with_unfolding_all rfl, by rfl, by rfl, by rfl⟩ : Ap _ _ "number" [] []) (IX (pv 2)) (fun _ _ _ _  => (AV AL (by rfl) T.Bn A5 (AA (pv 0) AB))) (fun _ _ _ _ => F6)) AB)))))), ?_⟩
  walk_at "Q"
  walk_at "RD"
  refine ⟨t, b, rfl, hb, Sm.of hbb (by decide +kernel), fun p H1 x y s1 e1 lo => ?_⟩
  walk_at "NX"
  have ax := lo.absx
  have ay := lo.absy
  have gx : x.natAbs.log2 < 1920 := lgT (n := 140) (Nat.lt_of_le_of_lt ax (Nat.lt_of_le_of_lt ht (by decide +kernel))) (by decide) (by decide)
  have gy : y.natAbs.log2 < 1920 := lgT (n := 140) (Nat.lt_of_le_of_lt ay (Nat.lt_of_le_of_lt hbb (by decide +kernel))) (by decide) (by decide)
  have lx : (dec x).length ≤ 42 := Am (k := 41) (by decide) (Nat.lt_of_le_of_lt ax (Nat.lt_of_le_of_lt ht (by decide +kernel)))
  have ly : (dec y).length ≤ 42 := Am (k := 41) (by decide) (Nat.lt_of_le_of_lt ay (Nat.lt_of_le_of_lt hbb (by decide +kernel)))
  have kk := fun H' s => k x y H' s lo
  unfold frT at kk
  clear lo k
  walk_at "Q"
  walk_at "RD"
  refine ⟨_, SqT.of e1, _, rfl, rfl, ?_⟩
  by_cases h1 : y = 1
  ·rw [if_pos (decide_eq_true (by rw [h1]))]
   rw [if_pos h1] at kk
   refine ⟨_, SqT.of e1, _, rfl, _, rfl, gx, ?_⟩
   rw [An]
   exact kk _ s1
  rw [if_neg (fun z => h1 (V.int.inj (of_decide_eq_true z)))]
  rw [if_neg h1] at kk
  walk_at "NX"
  delta tBM IH iTup
  refine ⟨tyS, ⟨_, SqT.of e1⟩, fun D nD => ?_⟩
  refine Hz (K := K) (ns := [x, y]) (.inr ⟨p, rfl, SqT.of e1⟩) (by show 2 ≤ 1000000; decide) nD (fun n H2 R hn s2 hR => ?_) fun H2 s2 e2 => ?_
  ·have gn : n.natAbs.log2 < 1920 := by
    simp only [List.mem_cons, List.not_mem_nil, or_false] at hn
    rcases hn with rfl | rfl
    ·exact gx
    ·exact gy
   walk_at "RD"
   refine ⟨gn, ?_⟩
   rw [An]
   exact hR
  ·refine ⟨[47], rfl, _, SqL.of e2, by simp only [List.map_cons, List.map_nil, List.sum_cons, List.sum_nil, List.length_cons, List.length_nil]; omega, ?_⟩
   exact kk _ (s1.trans s2)
theorem Hd : AY ["_law_script", "_law_k"] ["_law_script", "_law_k"] (AG Fi) := by walk_at "SC"
def CZ (K : PySem.W.Frag) : Sp := fun vs H Q _ => ∃ (a : Addr) (k : Int) (ns : List Int), vs = [.ref a, .int k] ∧ 0 ≤ k ∧ SqL K H a (ns.map V.int) ∧ Q (.int (ns.getD k.toNat 0)) H
theorem DR (T : Tx K mg) : BL P w K mg base CX0 1 T.Gi T.Fx ["_law_script", "_law_k"] (CZ K) := by
 refine T.Av.F.ok Hd (fun vs H Q E h => ?_) (fun cdv A outer s H vs Q E hr h => ?_)
 ·obtain ⟨a, k, ns, rfl, h0, hS, hq⟩ := h
  rfl
 ·obtain ⟨a, k, ns, rfl, h0, hS, hq⟩ := h
  have hu := Bc hr
  refine ⟨_, (AC (A7 (Ad G2 (pv 1) (AR Ah (by rfl) T.DO By (AA (pv 0) AB)) (Ar _)) (AF (AS (CB Cy (pv 0) (pv 1) (fun _ _ => rfl))))
    AZ)
   (AF (AS AI))), ?_⟩
  walk_at "RD"
  refine ⟨_, Or.inl hS, ?_⟩
  obtain ⟨k, rfl⟩ := Int.eq_ofNat_of_zero_le h0
  rw [List.length_map]
  by_cases hk : k < ns.length
  ·rw [if_pos (by simpa using hk)]
   refine ⟨_, hS, _, E5 (v := V.int (ns.getD k 0)) ?_, hq⟩
   rw [List.getElem?_map, List.getElem?_eq_getElem hk, List.getD_eq_getElem?_getD, List.getElem?_eq_getElem hk]
   rfl
  ·rw [if_neg (by simpa using hk)]
   rw [Int.toNat_natCast, List.getD_eq_getElem?_getD, List.getElem?_eq_none (by omega)] at hq
   exact hq
theorem FO : AY ["_law_one", "_law_two"] ["_law_one", "_law_two"] (AG Eo) := by walk_at "SC"
def E6 : Sp := fun vs H Q _ => ∃ a b : Int, vs = [.int a, .int b] ∧ 0 ≤ a ∧ 0 ≤ b ∧ Q (.int (Int.gcd a b)) H
def W_gcd (a b : Int) (H : Hp) : Nat → St → Hp → Prop := fun m σ H' => ∃ (d r : Int), m = r.toNat ∧ σ = [some (.int d), some (.int r)] ∧ H' = H ∧ 0 ≤ d ∧ 0 ≤ r ∧ Int.gcd d r = Int.gcd a b
theorem Gu (T : Tx K mg) : BL P w K mg base CX0 1 T.Fv T.E7 ["_law_one", "_law_two"] E6 := by
 refine T.DS.F.ok FO (fun vs H Q E h => ?_) (fun cdv A outer s H vs Q E hr h => ?_)
 ·obtain ⟨a, b, rfl, ha, hb, k⟩ := h
  rfl
 ·obtain ⟨a, b, rfl, ha, hb, k⟩ := h
  have hu := Bc hr
  refine ⟨_, (AC (FQ PassesOwn.never (Ad FC (pv 1) AI (Ar _))
    (AF (IY (i := 0) (j := 1) (by rfl) FO.nd rfl rfl (by decide) rfl rfl (AA (pv 1) (AA (AH Fp (pv 0) (pv 1)) AB)) (by rfl))))
   (AF (AS (pv 0)))), ?_⟩
  walk_at "RD"
  refine ⟨W_gcd a b H, ⟨_, a, b, rfl, rfl, rfl, ha, hb, rfl⟩, ?_⟩
  rintro m σ H' ⟨d, r, rfl, rfl, rfl, hd, hr', e⟩
  walk_at "RDE"
  by_cases h0 : r = 0
  ·subst h0
   simp only [decide_true, Bool.not_true, Bool.false_eq_true, if_false]
   walk_at "RD"
   rw [← e, EL hd] at k
   exact k
  ·simp only [h0, decide_false, Bool.not_false, if_true]
   refine ⟨_, fun _ _ h => h, ?_⟩
   walk_at "RD"
   have hp : 0 < r := by omega
   have hf := Ft (d := d) hp
   refine ⟨h0, _, ?_, r, d.fmod r, rfl, rfl, rfl, hr', hf.1, (FL hd hp).trans e⟩
   omega
theorem FZ : AY ["_law_found"] ["_law_found"] (AG DJ) := by walk_at "SC"
def Dn : Sp := fun vs H Q _ => ∃ i : Int, vs = [.int i] ∧ Q (.bl true) H
theorem Fl (T : Tx K mg) : BL P w K mg base CX0 1 T.D8 T.Dj ["_law_found"] Dn := by
 refine T.B1.F.ok FZ (fun vs H Q E h => ?_) (fun cdv A outer s H vs Q E hr h => ?_)
 ·obtain ⟨i, rfl, hq⟩ := h
  rfl
 ·obtain ⟨i, rfl, hq⟩ := h
  have hu := Bc hr
  refine ⟨_, (AF (AS (IV (AR BO (by rfl) T.BC A0 (AA (pv 0) (AA (DQ (v := .ty "int") (by rfl) T.IF HC rfl) AB))) (Iy (Fd (AR BO (by rfl) T.BC A0 (AA (pv 0) (AA (DQ (v := .ty "bool") (by rfl) T.IW IA rfl) AB)))))))), ?_⟩
  walk_at "RD"
  refine ⟨_, .int i, true, rfl, ?_⟩
  rw [if_pos rfl]
  exact ⟨_, .int i, false, rfl, hq⟩
theorem Cr : AY ["_law_found", "_law_due", "_law_k"] ["_law_found", "_law_due"] (AG Br) := by walk_at "SC"
def E4 (K : PySem.W.Frag) : Sp := fun vs H Q _ => ∃ (x y : Addr) (xs : List Int), vs = [.ref x, .ref y] ∧ H x = some (.tup (xs.map V.int)) ∧ SqT K H y (xs.map V.int) ∧ xs.length ≤ 1000 ∧ Q (.bl true) H
def W_num (x y : Addr) (H : Hp) : Nat → St → Hp → Prop := fun i σ H' => ∃ k, σ = [some (.ref x), some (.ref y), k] ∧ H' = H
theorem Ce (T : Tx K mg) : BL P w K mg base CX0 2 T.DM T.Ck ["_law_found", "_law_due"] (E4 K) := by
 refine T.Af.F.ok Cr (fun vs H Q E h => ?_) (fun cdv A outer s H vs Q E hr h => ?_)
 ·obtain ⟨x, y, xs, rfl, ex, ey, hl, k⟩ := h
  rfl
 ·obtain ⟨x, y, xs, rfl, ex, ey, hl, k⟩ := h
  have hu := Bc hr
  refine ⟨_, (AC (A7 (Du (B0 (BW (AR BO (by rfl) T.BC A0 (AA (pv 0) (AA (DQ (v := .ty "tuple") (by rfl) T.Ht Gj rfl) AB))))) (CT (Ad FC (AR Ah (by rfl) T.DO By (AA (pv 0) AB)) (AR Ah (by rfl) T.DO By (AA (pv 1) AB)) (Ar _)))).pt (AF (AS CP))
    AZ)
   (AC (JK PassesOwn.never rfl (GX (by rfl) T.Hi (AA (AR Ah (by rfl) T.DO By (AA (pv 1) AB)) AB)) (BR (i := 2) Cr.nd rfl (by walk_at "O"))
    (AF (A7 (Du (B0 (BW (AT (Fl T) (hr.mono (by decide)) (by rfl) T.B1.m T.B1.F.kp T.B1.b .nil A9 (AA (CB Dd (pv 0) (pv 2) (fun _ _ => rfl)) AB)))) (CT (Ad FC (CB Dd (pv 0) (pv 2) (fun _ _ => rfl)) (CB Dd (pv 1) (pv 2) (fun _ _ => rfl)) (Ar _)))).pt (AF (AS CP))
      AZ)))
   (AF (AS CP)))), ?_⟩
  walk_at "RD"
  walk_at "AUTO"
  refine ⟨_, rfl, _, rfl, _, Or.inr ey, ((xs.map V.int).length : Int), rfl, by rw [List.length_map]; omega, by rw [List.length_map]; omega, GW (n := (((xs.map V.int).length : Nat) : Int).toNat) (W_num x y H) ⟨none, rfl, rfl⟩ ?_ ?_⟩
  ·rintro i σ H1 hi ⟨k', rfl, rfl⟩
   rw [List.length_map] at hi
   delta Dn
   walk_at "AUTO"
   exact ⟨_, rfl, rfl⟩
  ·rintro σ H1 ⟨k', rfl, rfl⟩
   walk_at "RD"
   exact k
theorem DE : AY ["_law_text", "_law_refused"] ["_law_text"] (AG Dg) := by walk_at "SC"
def Gc {K : PySem.W.Frag} {mg : Str → Option Value} (T : Tx K mg) : Sp := fun vs H Q _ => ∃ l : List Nat, vs = [.str (tx l)] ∧ (∀ c ∈ l, c < 128) ∧ l.length ≤ 100000 ∧ (rdF l = none → ∀ D e H', H D = none → AE H H' → H' D = some (.lst [.bl false, .ref e]) → Q (.ref D) H') ∧ ∀ x y, rdF l = some (x, y) → ∀ D e H', H D = none → AE H H' → H' D = some (.lst [.bl true, .ref e]) → H' e = some (.tup [.int x, .int y]) → Q (.ref D) H'
theorem DA (T : Tx K mg) : BL P w K mg base CX0 4 T.FH T.ES ["_law_text"] (Gc T) := by
 refine T.Al.F.ok DE (fun vs H Q E h => ?_) (fun cdv A outer s H vs Q E hr h => ?_)
 ·obtain ⟨l, rfl, asc, hz, kE, k⟩ := h
  rfl
 ·obtain ⟨l, rfl, asc, hz, kE, k⟩ := h
  have hu := Bc hr
  refine ⟨_, (AC (AN (i := 1) DE.nd rfl (by walk_at "O") CP)
   (Fo (JJ rfl rfl (fun _ _ _ hp => (AF (AS (B3 (AA CP (AA (Gw (C7 T) (hr.mono (by decide)) (by rfl) T.Ao.m T.Ao.F.kp T.Ao.b .nil hp (AA (pv 0) AB)) AB))))))
    (PHs.cons (by rfl) T.Dc (by decide) (fun _ _ => (AF (AN (i := 1) DE.nd rfl (by walk_at "O") CP))) PHs.nil))
   (AF (AS (B3 (AA (Fd (pv 1)) (AA (B5 AB) AB))))))), ?_⟩
  walk_at "RD"
  refine ⟨fun σ' H' => rdF l = none ∧ AE H H' ∧ σ' = [some (.str (tx l)), some (.bl true)], ?_, ?_⟩
  ·refine Gx fun N hN => ?_
   have hE : rdF l = none → ∀ H', AE H H' → N (T.err .badrow) [some (.str (tx l)), some (V.bl false)] H' := fun he H' s => by
    refine hN _ _ _ ?_
    simp only [cxK, tHs, Tx.err, T.DP, Option.some.injEq, exists_eq_left', if_true, Bool.false_eq_true, if_false, Ee, CI, tC, List.set_cons_zero, List.set_cons_succ]
    exact ⟨he, s, trivial⟩
   clear hN
   delta G0
   refine ⟨l, rfl, asc, hz, hE, fun x y hxy e H1 n1 s1 e1 => ⟨by decide, fun D H2 n2 s2 e2 => ?_⟩⟩
   exact k x y hxy D e H2 (s1.free n2) (s1.trans s2) e2 (s2.get e1)
  ·rintro σ' H1 ⟨he, s1, rfl⟩
   walk_at "RD"
   exact ⟨by decide, fun p H2 np s2 ep => ⟨by decide, fun D H3 nD s3 eD => kE he D p H3 (s1.free (s2.free nD)) (s1.trans (s2.trans s3)) eD⟩⟩
theorem BG : AY ["_law_top", "_law_bottom", "_law_shared", "_law_text"] ["_law_top", "_law_bottom"] (AG Bx) := by walk_at "SC"
theorem Hq {t b x y : Int} (lo : EY t b x y) (hb : 0 < b) : ∃ g : Int, 0 < g ∧ (((if t < 0 then -t else t).gcd b : Nat) : Int) = g ∧ t / g = x ∧ b / g = y ∧ g ≤ b := by
 obtain ⟨g, g0, e1, e2⟩ := lo.ex
 have yp := lo.pos
 have gp : 0 < g := by
  rcases Int.lt_or_gt_of_ne g0 with z | z
  ·have := Int.mul_neg_of_neg_of_pos z yp
   omega
  ·exact z
 refine ⟨g, gp, ?_, ?_, ?_, ?_⟩
 ·have h1 : (if t < 0 then -t else t).gcd b = t.gcd b := by
   split
   ·rw [Int.neg_gcd]
   ·rfl
  rw [h1, e1, e2, Int.gcd_mul_left, lo.one]
  omega
 ·rw [e1, Int.mul_ediv_cancel_left _ g0]
 ·rw [e2, Int.mul_ediv_cancel_left _ g0]
 ·rw [e2]
  have := Int.mul_le_mul_of_nonneg_left (show (1 : Int) ≤ y by omega) (show 0 ≤ g by omega)
  omega
def Ek (K : PySem.W.Frag) : Sp := fun vs H Q _ => ∃ t b x y : Int, vs = [.int t, .int b] ∧ 0 < b ∧ t.natAbs ≤ 10 ^ 30 ∧ b ≤ 10 ^ 30 ∧ EY t b x y ∧ Q (.str (tx (frT x y))) H
theorem Ex (T : Tx K mg) : BL P w K mg base CX0 2 T.DN T.Cc ["_law_top", "_law_bottom"] (Ek K) := by
 refine T.BS.F.ok BG (fun vs H Q E h => ?_) (fun cdv A outer s H vs Q E hr h => ?_)
 ·obtain ⟨t, b, x, y, rfl, hb, ht, hbb, lo, k⟩ := h
  rfl
 ·obtain ⟨t, b, x, y, rfl, hb, ht, hbb, lo, k⟩ := h
  have hu := Bc hr
  refine ⟨_, (AC (AN (i := 2) BG.nd rfl (by walk_at "O") (AT (Gu T) (hr.mono (by decide)) (by rfl) T.DS.m T.DS.F.kp T.DS.b .nil A9 (AA (AR Dv (by rfl) T.HD FT (AA (pv 0) AB)) (AA (pv 1) AB))))
   (AC (AN (i := 3) BG.nd rfl (by walk_at "O") (AV AL (by rfl) T.Bn A5 (AA (AH De (pv 0) (pv 2)) AB)))
   (AC (A7 (Ad G7 (AH De (pv 1) (pv 2)) AI (Ar _)) (AF (AN (i := 3) BG.nd rfl (by walk_at "O") (AH AD (AH AD (pv 3) AQ) (AV AL (by rfl) T.Bn A5 (AA (AH De (pv 1) (pv 2)) AB)))))
    AZ)
   (AF (AS (pv 3)))))), ?_⟩
  obtain ⟨g, gp, eg, ex, ey, gb⟩ := Hq lo hb
  have sg : Sm g := Sm.of (n := 10 ^ 30) (by omega) (by decide +kernel)
  have ax := lo.absx
  have ay := lo.absy
  have yp := lo.pos
  have hb2 : b.natAbs ≤ 10 ^ 30 := by omega
  have gx : x.natAbs.log2 < 1920 := lgT (n := 140) (Nat.lt_of_le_of_lt ax (Nat.lt_of_le_of_lt ht (by decide +kernel))) (by decide) (by decide)
  have gy : y.natAbs.log2 < 1920 := lgT (n := 140) (Nat.lt_of_le_of_lt ay (Nat.lt_of_le_of_lt hb2 (by decide +kernel))) (by decide) (by decide)
  have lx : (dec x).length ≤ 42 := Am (k := 41) (by decide) (Nat.lt_of_le_of_lt ax (Nat.lt_of_le_of_lt ht (by decide +kernel)))
  have ly : (dec y).length ≤ 42 := Am (k := 41) (by decide) (Nat.lt_of_le_of_lt ay (Nat.lt_of_le_of_lt hb2 (by decide +kernel)))
  walk_at "Q"
  delta E6
  rw [eg]
  refine ⟨by split <;> omega, by omega, ?_⟩
  walk_at "NX"
  walk_at "Q"
  walk_at "RD"
  rw [ex, An]
  refine ⟨gp, sg, gx, ?_⟩
  walk_at "NX"
  unfold frT at k
  walk_at "Q"
  refine GC fun A B hA hB => ?_
  walk_at "RD"
  rw [ey]
  refine ⟨gp, sg, ?_⟩
  by_cases h1 : 1 < y
  ·rw [if_pos (decide_eq_true h1)]
   rw [if_neg (by omega)] at k
   refine hA _ _ ?_
   clear hA hB A B
   walk_at "RD"
   rw [ey, An, HG, CV, CV]
   refine ⟨by rw [AO, AO, PySem.sizeLine_eq]; simp only [List.length_cons, List.length_nil]; omega, gp, sg, gy, by rw [AO, AO, PySem.sizeLine_eq, List.length_append]; simp only [List.length_cons, List.length_nil]; omega, ?_⟩
   refine hM _ _ ?_
   walk_at "RD"
   rw [List.append_assoc]
   exact k
  ·rw [if_neg (fun z => h1 (of_decide_eq_true z))]
   rw [if_pos (by omega)] at k
   refine hB _ _ (hM _ _ ?_)
   exact ⟨_, rfl, k⟩
theorem Ab : AY ["_law_script", "_law_how", "_law_top", "_law_bottom", "_law_found", "_law_second", "_law_good", "_law_told", "_law_one", "_law_two", "_law_texts"] ["_law_script"] (AG F0) := by walk_at "SC"
theorem Ds {i : Int} {c : Nat} (h : c ≠ 45) (h2 : c < 48 ∨ 57 < c) : c ∉ dec i := fun z => by
 rcases C8 i c z with w | w
 ·exact h w
 ·omega
theorem Ev {l : List Nat} (h : 47 ∉ l) : rdF l = (rdN l).map fun x => (x, 1) := by unfold rdF; rw [B4 h]
theorem Es {a b : List Nat} (ha : 47 ∉ a) (hb : 47 ∉ b) : rdF (a ++ 47 :: b) = match rdN a, rdN b with | some x, some y => some (x, y) | _, _ => none := by
 unfold rdF
 rw [Bt ha, B4 hb]
 all_goals rfl
theorem EG {a b c : List Nat} (ha : 47 ∉ a) (hb : 47 ∉ b) : rdF (a ++ 47 :: (b ++ 47 :: c)) = none := by
 unfold rdF
 rw [Bt ha, Bt hb]
 cases h : Ag 47 c with
 | nil => exact absurd h (Eh _ _)
 | cons p ps => rfl
theorem Dr {a b : List Nat} (ha : 47 ∉ a) (hb : 47 ∉ b) (h : rdN a = none) : rdF (a ++ 47 :: b) = none := by rw [Es ha hb, h]
theorem BZ {a b : List Nat} (ha : 47 ∉ a) (hb : 47 ∉ b) (h : rdN b = none) : rdF (a ++ 47 :: b) = none := by
 rw [Es ha hb, h]
 cases rdN a <;> rfl
theorem Gr {l : List Nat} {c : Nat} (h : c ∈ l) (hc : c ≠ 45) : c ∈ bare l := by
 unfold bare
 by_cases hn : DI l = true
 ·rw [if_pos hn]
  unfold DI at hn
  cases l with
  | nil => cases h
  | cons a r =>
   have : a = 45 := by simpa using hn
   rcases List.mem_cons.mp h with z | z
   ·rw [z] at hc; exact absurd this hc
   ·exact z
 ·rw [if_neg hn]; exact h
theorem Cm {l : List Nat} {c : Nat} (h : c ∈ l) (hc : c ≠ 45) (hd : ¬ (48 ≤ c ∧ c ≤ 57)) : rdN l = none := by
 unfold rdN
 rw [if_neg (fun z => hd (by rw [z] at h; rw [List.mem_singleton.mp h]; decide)), if_neg (fun z => hd (z.2.2.1 c (Gr h hc)))]
theorem FM {r : List Nat} (h : r ≠ []) : rdN (48 :: r) = none := by
 unfold rdN
 rw [if_neg (fun z => h (List.cons.inj z).2)]
 have e : bare (48 :: r) = 48 :: r := rfl
 rw [e, if_neg (fun z => z.2.2.2 rfl)]
abbrev L15 (o t : List Nat) (b : Int) : List (List Nat) := [o ++ [47, 47] ++ t, [47] ++ o, o ++ [47], o ++ [32, 47] ++ t, o ++ [47, 32] ++ t, [48] ++ o ++ [47] ++ t, o ++ [47, 48] ++ dec b, o ++ [47] ++ dec (1000000000 + b), o ++ [47, 120], [], [47], o ++ [47] ++ t ++ [47, 49], [43] ++ o, o ++ [47, 45, 48], o ++ [58] ++ t]
theorem bad15 {t s b : Int} (hb : 0 < b) : ∀ l ∈ L15 (dec t) (dec s) b, rdF l = none := by
 have n1 : 47 ∉ dec t := Ds (by decide) (by decide)
 have n2 : 47 ∉ dec s := Ds (by decide) (by decide)
 have n3 : ∀ i : Int, 47 ∉ dec i := fun i => Ds (by decide) (by decide)
 intro l hl
 simp only [List.mem_cons, List.not_mem_nil, or_false] at hl
 rcases hl with rfl | rfl | rfl | rfl | rfl | rfl | rfl | rfl | rfl | rfl | rfl | rfl | rfl | rfl | rfl
 ·rw [List.append_assoc]; exact EG (b := []) n1 (by simp)
 ·exact Dr (a := []) (by simp) n1 rfl
 ·exact BZ (b := []) n1 (by simp) rfl
 ·rw [show dec t ++ [32, 47] ++ dec s = (dec t ++ [32]) ++ 47 :: dec s by simp]
  exact Dr (fun z => by rcases List.mem_append.mp z with w | w; exact n1 w; simp at w) n2 (Cm (c := 32) (by simp) (by decide) (by decide))
 ·rw [show dec t ++ [47, 32] ++ dec s = dec t ++ 47 :: (32 :: dec s) by simp]
  exact BZ n1 (fun z => by rcases List.mem_cons.mp z with w | w; cases w; exact n2 w) (Cm (c := 32) (by simp) (by decide) (by decide))
 ·rw [show [48] ++ dec t ++ [47] ++ dec s = (48 :: dec t) ++ 47 :: dec s by simp]
  exact Dr (fun z => by rcases List.mem_cons.mp z with w | w; cases w; exact n1 w) n2 (FM (HN t))
 ·rw [show dec t ++ [47, 48] ++ dec b = dec t ++ 47 :: (48 :: dec b) by simp]
  exact BZ n1 (fun z => by rcases List.mem_cons.mp z with w | w; cases w; exact n3 _ w) (FM (HN b))
 ·rw [show dec t ++ [47] ++ dec (1000000000 + b) = dec t ++ 47 :: dec (1000000000 + b) by simp]
  exact BZ n1 (n3 _) (Hj (by omega))
 ·exact BZ (b := [120]) n1 (by decide) rfl
 ·rfl
 ·rfl
 ·rw [show dec t ++ [47] ++ dec s ++ [47, 49] = dec t ++ 47 :: (dec s ++ 47 :: [49]) by simp]
  exact EG n1 n2
 ·rw [Ev (fun z => by rcases List.mem_append.mp z with w | w; simp at w; exact n1 w), Cm (c := 43) (by simp) (by decide) (by decide)]; rfl
 ·exact BZ (b := [45, 48]) n1 (by decide) rfl
 ·rw [Ev (fun z => by simp at z; rcases z with w | w; exact n1 w; exact n2 w), Cm (c := 58) (by simp) (by decide) (by decide)]; rfl
theorem asc15 {t s b : Int} (ht : t.natAbs ≤ 999999999) (hs : s.natAbs ≤ 999999999) (h0 : 0 < b) (hb : b ≤ 999999999) : ∀ l ∈ L15 (dec t) (dec s) b, (∀ c ∈ l, c < 128) ∧ l.length ≤ 100000 := by
 have a1 : ∀ i : Int, ∀ c ∈ dec i, c < 128 := fun i c hc => by have := C8 i c hc; omega
 have l1 : (dec t).length ≤ 20 := Am (k := 19) (by decide) (by omega)
 have l2 : (dec s).length ≤ 20 := Am (k := 19) (by decide) (by omega)
 have l3 : (dec b).length ≤ 20 := Am (k := 19) (by decide) (by omega)
 have l4 : (dec (1000000000 + b)).length ≤ 20 := Am (k := 19) (by decide) (by omega)
 intro l hl
 simp only [List.mem_cons, List.not_mem_nil, or_false] at hl
 rcases hl with rfl | rfl | rfl | rfl | rfl | rfl | rfl | rfl | rfl | rfl | rfl | rfl | rfl | rfl | rfl
 all_goals
  refine ⟨fun c hc => ?_, by simp only [List.length_append, List.length_cons, List.length_nil]; omega⟩
  have := a1 t c
  have := a1 s c
  have := a1 b c
  have := a1 (1000000000 + b) c
  simp only [List.mem_append, List.mem_cons, List.not_mem_nil, or_false] at hc
  try grind
theorem Iw {L : List (List Nat)} {e : Int} (h0 : 0 ≤ e) (h1 : e < L.length) : ∃ x ∈ L, atI (tvs L) e = some (V.str (tx x)) := by
 have hi : e.toNat < L.length := by omega
 refine ⟨L[e.toNat], List.getElem_mem hi, ?_⟩
 have := E5 (xs := tvs L) (j := e.toNat) (v := V.str (tx L[e.toNat])) (by rw [List.getElem?_map, List.getElem?_eq_getElem hi]; rfl)
 rwa [show ((e.toNat : Nat) : Int) = e by omega] at this
theorem o_ss : Str.ofString "//" = tx [47, 47] := by rfl
theorem o_bs : Str.ofString " /" = tx [32, 47] := by rfl
theorem o_sb : Str.ofString "/ " = tx [47, 32] := by rfl
theorem o_s0 : Str.ofString "/0" = tx [47, 48] := by rfl
theorem o_sx : Str.ofString "/x" = tx [47, 120] := by rfl
theorem o_s1 : Str.ofString "/1" = tx [47, 49] := by rfl
theorem o_pl : Str.ofString "+" = tx [43] := by rfl
theorem o_sm0 : Str.ofString "/-0" = tx [47, 45, 48] := by rfl
theorem o_co : Str.ofString ":" = tx [58] := by rfl
theorem o_em : Str.ofString "" = tx [] := by rfl
def Fh (K : PySem.W.Frag) : Sp := fun vs H Q _ => ∃ (a : Addr) (ns : List Int), vs = [.ref a] ∧ SqL K H a (ns.map V.int) ∧ ns.length ≤ 63 ∧ ∀ H', Q (.bl true) H'
theorem Io (T : Tx K mg) : BL P w K mg base CX0 5 T.IM T.HB ["_law_script"] (Fh K) := by
 refine T.d_law.F.ok Ab (fun vs H Q E h => ?_) (fun cdv A outer s H vs Q E hr h => ?_)
 ·obtain ⟨a, ns, rfl, hS, hl, k⟩ := h
  rfl
 ·obtain ⟨a, ns, rfl, hS, hl, k⟩ := h
  have hu := Bc hr
  refine ⟨_, (AC (AN (i := 1) Ab.nd rfl (by walk_at "O") (AT (DR T) (hr.mono (by decide)) (by rfl) T.Av.m T.Av.F.kp T.Av.b .nil A9 (AA (pv 0) (AA AI AB))))
   (AC (AN (i := 2) Ab.nd rfl (by walk_at "O") (AH G1 (AH CU (AT (DR T) (hr.mono (by decide)) (by rfl) T.Av.m T.Av.F.kp T.Av.b .nil A9 (AA (pv 0) (AA AI AB))) AI) AI))
   (AC (AN (i := 3) Ab.nd rfl (by walk_at "O") (AH Fg AI (AH CU (AT (DR T) (hr.mono (by decide)) (by rfl) T.Av.m T.Av.F.kp T.Av.b .nil A9 (AA (pv 0) (AA AI AB))) AI)))
   (AC (A7 (Ad F9 (AH CU (pv 1) AI) AI (Ar _)) (AC (AN (i := 2) Ab.nd rfl (by walk_at "O") (AH G1 (AH CU (pv 2) AI) AI))
     (AF (AN (i := 3) Ab.nd rfl (by walk_at "O") (AH Fg AI (AH CU (pv 3) AI)))))
    AZ)
   (AC (AN (i := 4) Ab.nd rfl (by walk_at "O") (AT (Cu T) (hr.mono (by decide)) (by rfl) T.Ai.m T.Ai.F.kp T.Ai.b .nil A9 (AA (pv 2) (AA (pv 3) AB))))
   (AC (A7 (Du (B0 (BW (AR BO (by rfl) T.BC A0 (AA (pv 4) (AA (DQ (v := .ty "str") (by rfl) T.Bn A5 rfl) AB))))) (CT (Ad FC (pv 4) (AT (Ex T) (hr.mono (by decide)) (by rfl) T.BS.m T.BS.F.kp T.BS.b .nil A9 (AA (pv 2) (AA (pv 3) AB))) (Ar _)))).pt (AF (AS CP))
    AZ)
   (AC (AN (i := 5) Ab.nd rfl (by walk_at "O") (CB Cy (B3 (AA (pv 3) (AA (pv 3) (AA (IN HA (pv 3)) (AA AI (AA (pv 3) (AA (pv 3) AB))))))) (AH CU (AH Hc (pv 1) AI) AI) (fun _ _ => rfl)))
   (AC (Ff (AT (DA T) (hr.mono (by decide)) (by rfl) T.Al.m T.Al.F.kp T.Al.b .nil A9 (AA (AH AD (AH AD (AV AL (by rfl) T.Bn A5 (AA (pv 2) AB)) AQ) (AV AL (by rfl) T.Bn A5 (AA (pv 5) AB))) AB)) (FW (n := 2) rfl (Ba (BR (i := 6) Ab.nd rfl (by walk_at "O")) (Ba (BR (i := 7) Ab.nd rfl (by walk_at "O")) Ew))))
   (AC (A7 (Du (B0 (BW (pv 6))) (CT (B0 (BW (AT (Ce T) (hr.mono (by decide)) (by rfl) T.Af.m T.Af.F.kp T.Af.b .nil A9 (AA (pv 7) (AA (B5 (AA (pv 2) (AA (pv 5) AB))) AB))))))).pt (AF (AS CP))
    AZ)
   (AC (Ff (AT (DA T) (hr.mono (by decide)) (by rfl) T.Al.m T.Al.F.kp T.Al.b .nil A9 (AA (AV AL (by rfl) T.Bn A5 (AA (pv 2) AB)) AB)) (FW (n := 2) rfl (Ba (BR (i := 6) Ab.nd rfl (by walk_at "O")) (Ba (BR (i := 7) Ab.nd rfl (by walk_at "O")) Ew))))
   (AC (A7 (Du (B0 (BW (pv 6))) (CT (B0 (BW (AT (Ce T) (hr.mono (by decide)) (by rfl) T.Af.m T.Af.F.kp T.Af.b .nil A9 (AA (pv 7) (AA (B5 (AA (pv 2) (AA AI AB))) AB))))))).pt (AF (AS CP))
    AZ)
   (AC (AN (i := 8) Ab.nd rfl (by walk_at "O") (AV AL (by rfl) T.Bn A5 (AA (pv 2) AB)))
   (AC (AN (i := 9) Ab.nd rfl (by walk_at "O") (AV AL (by rfl) T.Bn A5 (AA (pv 5) AB)))
   (AC (AN (i := 10) Ab.nd rfl (by walk_at "O") (B3 (AA (AH AD (AH AD (pv 8) AQ) (pv 9)) (AA (AH AD AQ (pv 8)) (AA (AH AD (pv 8) AQ) (AA (AH AD (AH AD (pv 8) AQ) (pv 9)) (AA (AH AD (AH AD (pv 8) AQ) (pv 9)) AB)))))))
   (AC (AN (i := 10) Ab.nd rfl (by walk_at "O") (AH Fz (pv 10) (B3 (AA (AH AD (AH AD (AH AD AQ (pv 8)) AQ) (pv 9)) (AA (AH AD (AH AD (pv 8) AQ) (AV AL (by rfl) T.Bn A5 (AA (pv 3) AB))) (AA (AH AD (AH AD (pv 8) AQ) (AV AL (by rfl) T.Bn A5 (AA (AH Fg AI (pv 3)) AB))) AB))))))
   (AC (AN (i := 10) Ab.nd rfl (by walk_at "O") (AH Fz (pv 10) (B3 (AA (AH AD (pv 8) AQ) (AA AQ (AA AQ (AA (AH AD (AH AD (AH AD (pv 8) AQ) (pv 9)) AQ) (AA (AH AD AQ (pv 8)) (AA (AH AD (pv 8) AQ) (AA (AH AD (AH AD (pv 8) AQ) (pv 9)) AB))))))))))
   (AC (Ff (AT (DA T) (hr.mono (by decide)) (by rfl) T.Al.m T.Al.F.kp T.Al.b .nil A9 (AA (CB Cy (pv 10) (AH CU (AT (DR T) (hr.mono (by decide)) (by rfl) T.Av.m T.Av.F.kp T.Av.b .nil A9 (AA (pv 0) (AA AI AB))) AI) (fun _ _ => rfl)) AB)) (FW (n := 2) rfl (Ba (BR (i := 6) Ab.nd rfl (by walk_at "O")) (Ba (BR (i := 7) Ab.nd rfl (by walk_at "O")) Ew))))
   (AF (AS (Fd (pv 6))))))))))))))))))))), ?_⟩
  walk_at "Q"
  delta CZ
  refine ⟨ns, hS, ?_⟩
  walk_at "NX"
  generalize ns.getD 2 0 = how
  walk_at "Q"
  delta CZ
  refine ⟨ns, hS, ?_⟩
  walk_at "NX"
  have t0 : (ns.getD 0 0 % 1999999999 - 999999999).natAbs ≤ 999999999 := by omega
  generalize ns.getD 0 0 % 1999999999 - 999999999 = top0 at *
  walk_at "Q"
  delta CZ
  refine ⟨ns, hS, ?_⟩
  walk_at "NX"
  have b0 : 0 < 1 + ns.getD 1 0 % 999999999 ∧ 1 + ns.getD 1 0 % 999999999 ≤ 999999999 := by omega
  generalize 1 + ns.getD 1 0 % 999999999 = bot0 at *
  walk_at "Q"
  have rest : ∀ top bot : Int, top.natAbs ≤ 999999999 → 0 < bot → bot ≤ 999999999 → M [some (.ref a), some (.int how), some (.int top), some (.int bot), none, none, none, none, none, none, none] H := by
   intro top bot ht hb0 hb1
   refine hM _ _ ?_
   clear hM M
   have lt : (dec top).length ≤ 20 := Am (k := 19) (by decide) (by omega)
   have lb : (dec bot).length ≤ 20 := Am (k := 19) (by decide) (by omega)
   have lb2 : (dec (1000000000 + bot)).length ≤ 20 := Am (k := 19) (by decide) (by omega)
   have gt : ∀ i : Int, i.natAbs ≤ 10 ^ 15 → i.natAbs.log2 < 1920 := fun i hi => lgT (n := 140) (Nat.lt_of_le_of_lt hi (by decide +kernel)) (by decide) (by decide)
   have ad : ∀ x y : List Nat, x.length ≤ 1000 → y.length ≤ 1000 → (tx x).length + (tx y).length ≤ sizeLine := fun x y hx hy => by rw [AO, AO, PySem.sizeLine_eq]; omega
   walk_at "Q"
   walk_at "RD"
   refine ⟨top, bot, rfl, by omega, Nat.le_trans ht (by decide +kernel), Nat.le_trans (show bot.natAbs ≤ 999999999 by omega) (by decide +kernel), fun x y H1 s1 lo => ?_⟩
   walk_at "NX"
   walk_at "Q"
   walk_at "RD"
   refine ⟨_, Bq.str _, _, rfl, ?_⟩
   rw [if_neg (by decide)]
   refine ⟨top, bot, x, y, rfl, hb0, Nat.le_trans ht (by decide +kernel), Int.le_trans hb1 (by decide +kernel), lo, ?_⟩
   refine ⟨rfl, ?_⟩
   rw [if_neg (by simp)]
   walk_at "NX"
   clear lo
   walk_at "Q"
   walk_at "RD"
   refine ⟨by decide, fun z2 H2 n2 s2 e2 => ⟨_, SqL.of e2, ?_⟩⟩
   obtain ⟨sec, hsec, hs9⟩ : ∃ v : Int, atI [V.int bot, V.int bot, V.int (-bot), V.int 0, V.int bot, V.int bot] (how / 2 % 6) = some (V.int v) ∧ v.natAbs ≤ 999999999 := by
    have h0 : 0 ≤ how / 2 % 6 := by omega
    have h7 : how / 2 % 6 < 6 := by omega
    generalize how / 2 % 6 = e at *
    rcases (show e = 0 ∨ e = 1 ∨ e = 2 ∨ e = 3 ∨ e = 4 ∨ e = 5 by omega) with rfl | rfl | rfl | rfl | rfl | rfl
    all_goals exact ⟨_, rfl, by omega⟩
   refine ⟨_, hsec, ?_⟩
   walk_at "NX"
   have ls : (dec sec).length ≤ 20 := Am (k := 19) (by decide) (by omega)
   have n1 : 47 ∉ dec top := Ds (by decide) (by decide)
   have n2 : 47 ∉ dec sec := Ds (by decide) (by decide)
   have a1 : ∀ i : Int, ∀ c ∈ dec i, c < 128 := fun i c hc => by have := C8 i c hc; omega
   clear e2 hsec
   walk_at "Q"
   walk_at "RD"
   rw [An, An, HG, CV, CV]
   refine ⟨gt _ (by omega), ad _ _ (by omega) (by decide), gt _ (by omega), ad _ _ (by rw [List.length_append]; simp only [List.length_cons, List.length_nil]; omega) (by omega), ?_⟩
   have er : rdF (dec top ++ [47] ++ dec sec) = some (top, sec) := by
    rw [List.append_assoc, List.singleton_append, Es n1 n2, Et ht, Et hs9]
   refine ⟨_, rfl, fun c hc => ?_, by simp only [List.length_append, List.length_cons, List.length_nil]; omega, fun he => (by rw [er] at he; cases he), fun x' y' hxy D3 t3 H3 n3 s3 e3 et3 => ?_⟩
   ·simp only [List.mem_append, List.mem_cons, List.not_mem_nil, or_false] at hc
    have := a1 top c
    have := a1 sec c
    grind
   rw [er] at hxy
   cases hxy
   refine ⟨D3, rfl, _, SqL.of e3, rfl, _, _, rfl, _, _, rfl, rfl, ?_⟩
   walk_at "NX"
   clear e3 n3
   walk_at "Q"
   walk_at "RD"
   refine ⟨by decide, fun z4 H4 n4 s4 e4 => ⟨t3, z4, [top, sec], rfl, s4.get et3, SqT.of e4, (by show 2 ≤ 1000; decide), true, rfl, ?_⟩⟩
   rw [if_neg (by decide)]
   walk_at "NX"
   clear e4 n4 et3
   walk_at "Q"
   walk_at "RD"
   rw [An]
   refine ⟨gt _ (by omega), ?_⟩
   have er1 : rdF (dec top) = some (top, 1) := by rw [Ev n1, Et ht]; rfl
   refine ⟨_, rfl, a1 top, by omega, fun he => (by rw [er1] at he; cases he), fun x' y' hxy D5 t5 H5 n5 s5 e5 et5 => ?_⟩
   rw [er1] at hxy
   cases hxy
   refine ⟨D5, rfl, _, SqL.of e5, rfl, _, _, rfl, _, _, rfl, rfl, ?_⟩
   walk_at "NX"
   clear e5 n5
   walk_at "Q"
   walk_at "RD"
   refine ⟨by decide, fun z6 H6 n6 s6 e6 => ⟨t5, z6, [top, 1], rfl, s6.get et5, SqT.of e6, (by show 2 ≤ 1000; decide), true, rfl, ?_⟩⟩
   rw [if_neg (by decide)]
   walk_at "NX"
   clear e6 n6 et5
   walk_at "Q"
   walk_at "RD"
   rw [An]
   refine ⟨gt _ (by omega), ?_⟩
   walk_at "NX"
   walk_at "Q"
   walk_at "RD"
   rw [An]
   refine ⟨gt _ (by omega), ?_⟩
   walk_at "NX"
   have s06 := s1.trans (s2.trans (s3.trans (s4.trans (s5.trans s6))))
   clear s1 s2 s3 s4 s5 s6 n2 er er1
   walk_at "Q"
   walk_at "RD"
   rw [o_ss, HG, o_bs, o_sb]
   simp only [CV]
   iterate 8 (refine ⟨by rw [AO, AO, PySem.sizeLine_eq]; (try simp only [List.length_append, List.length_cons, List.length_nil]); omega, ?_⟩)
   refine ⟨by decide, fun p7 H7 n7 s7 e7 => ?_⟩
   walk_at "NX"
   walk_at "Q"
   walk_at "RD"
   rw [Fj, HG, o_s0, An, An]
   simp only [CV]
   iterate 4 (refine ⟨by rw [AO, AO, PySem.sizeLine_eq]; (try simp only [List.length_append, List.length_cons, List.length_nil]); omega, ?_⟩)
   refine ⟨gt _ (by omega), ?_⟩
   iterate 2 (refine ⟨by rw [AO, AO, PySem.sizeLine_eq]; (try simp only [List.length_append, List.length_cons, List.length_nil]); omega, ?_⟩)
   refine ⟨gt _ (by omega), ?_⟩
   iterate 1 (refine ⟨by rw [AO, AO, PySem.sizeLine_eq]; (try simp only [List.length_append, List.length_cons, List.length_nil]); omega, ?_⟩)
   refine ⟨by decide, fun p8 H8 n8 s8 e8 => ⟨_, s8.get e7, _, e8, by rw [PySem.sizeLine_eq]; simp only [List.length_append, List.length_cons, List.length_nil]; omega, fun p9 H9 n9 s9 e9 => ?_⟩⟩
   walk_at "NX"
   have s69 := s7.trans (s8.trans s9)
   clear e7 e8 n7 n8 n9 s7 s8 s9
   walk_at "Q"
   walk_at "RD"
   rw [o_sx, o_em, HG, o_s1, o_pl, o_sm0, o_co]
   simp only [CV]
   iterate 8 (refine ⟨by rw [AO, AO, PySem.sizeLine_eq]; (try simp only [List.length_append, List.length_cons, List.length_nil]); omega, ?_⟩)
   refine ⟨by decide, fun p10 H10 n10 s10 e10 => ⟨_, s10.get e9, _, e10, by rw [PySem.sizeLine_eq]; simp only [List.length_append, List.length_cons, List.length_nil]; omega, fun p11 H11 n11 s11 e11 => ?_⟩⟩
   walk_at "NX"
   have s611 := s69.trans (s10.trans s11)
   have e11' : H11 p11 = some (.lst (tvs (L15 (dec top) (dec sec) bot))) := e11
   have hS11 := (s06.trans s611).seq hS
   clear e9 e10 n10 n11 s10 s11 e11
   walk_at "Q"
   delta CZ
   refine ⟨ns, hS11, _, SqL.of e11', ?_⟩
   obtain ⟨w, hw, ew⟩ := Iw (L := L15 (dec top) (dec sec) bot) (e := ns.getD 3 0 % 15) (by omega) (by simp only [List.length_cons, List.length_nil]; omega)
   have hn := bad15 hb0 w hw
   have ha := asc15 ht hs9 hb0 hb1 w hw
   refine ⟨_, ew, w, rfl, ha.1, ha.2, fun _ D12 e12 H12 n12 s12 ed => ?_, fun x' y' he => (by rw [hn] at he; cases he)⟩
   refine ⟨D12, rfl, _, SqL.of ed, rfl, _, _, rfl, _, _, rfl, rfl, ?_⟩
   walk_at "NX"
   walk_at "RD"
   exact k _
  clear hM
  refine GC fun A B hA hB => ?_
  walk_at "RD"
  by_cases h2 : how % 2 = 0
  ·rw [if_pos (decide_eq_true h2)]
   refine hA _ _ ?_
   walk_at "RD"
   exact rest _ _ (by omega) (by omega) (by omega)
  ·rw [if_neg (fun z => h2 (of_decide_eq_true z))]
   exact hB _ _ (rest _ _ t0 b0.1 b0.2)
end
theorem JA {l : PySem.W.OpenLaw} {w : World} {K : PySem.W.Frag} {h : Heap} {mg : Str → Option Value} {fa : Addr} (KO : E8 K = Gb) (X : K.In h) (G : h.Ns mainGlobals mg) (hfa : mg "law" = some (.ref fa)) :
  ∃ fd : FuncData, (∀ (s : Shared) (v : Value), BindsTo s fd ⟨[v], []⟩ [("_law_script", v)]) ∧ ∀ base : Heap, K.In base → base.Ns mainGlobals mg → BL l.prog w K mg base CX0 5 fa fd ["_law_script"] (Fh K) := by
 obtain ⟨g0, KO⟩ := Prod.mk.inj KO
 obtain ⟨g1, KO⟩ := Prod.mk.inj KO
 obtain ⟨g2, KO⟩ := Prod.mk.inj KO
 obtain ⟨g3, KO⟩ := Prod.mk.inj KO
 obtain ⟨g4, KO⟩ := Prod.mk.inj KO
 obtain ⟨g5, KO⟩ := Prod.mk.inj KO
 have g6 := KO
 obtain ⟨h1, g0⟩ := List.cons.inj g0
 obtain ⟨h2, g0⟩ := List.cons.inj g0
 obtain ⟨h19, g0⟩ := List.cons.inj g0
 obtain ⟨h20, g0⟩ := List.cons.inj g0
 obtain ⟨h21, g0⟩ := List.cons.inj g0
 obtain ⟨h22, g0⟩ := List.cons.inj g0
 obtain ⟨h23, g0⟩ := List.cons.inj g0
 obtain ⟨h24, g0⟩ := List.cons.inj g0
 obtain ⟨h25, g1⟩ := List.cons.inj g1
 obtain ⟨h26, g1⟩ := List.cons.inj g1
 obtain ⟨h27, g1⟩ := List.cons.inj g1
 obtain ⟨h3, g2⟩ := List.cons.inj g2
 obtain ⟨h4, g3⟩ := List.cons.inj g3
 obtain ⟨h5, g3⟩ := List.cons.inj g3
 obtain ⟨h6, g3⟩ := List.cons.inj g3
 obtain ⟨h7, g3⟩ := List.cons.inj g3
 obtain ⟨h8, g3⟩ := List.cons.inj g3
 obtain ⟨h9, g3⟩ := List.cons.inj g3
 obtain ⟨h10, g3⟩ := List.cons.inj g3
 obtain ⟨h11, g3⟩ := List.cons.inj g3
 obtain ⟨h12, g4⟩ := List.cons.inj g4
 obtain ⟨h13, g4⟩ := List.cons.inj g4
 obtain ⟨h14, g4⟩ := List.cons.inj g4
 obtain ⟨h15, g4⟩ := List.cons.inj g4
 obtain ⟨h16, g4⟩ := List.cons.inj g4
 obtain ⟨h18, g5⟩ := List.cons.inj g5
 obtain ⟨h17, g6⟩ := List.cons.inj g6
 obtain ⟨BA, aC_BeachError, ex_BeachError⟩ := F2 h1
 obtain ⟨BI, aC_BadRow, ex_BadRow⟩ := F2 h2
 obtain ⟨f1, fd1, d1⟩ := A4 (ps := ["one", "two"]) X G h4 fun _ _ _ _ _ _ us hl => by obtain ⟨x0, x1, rfl⟩ := FR hl; rfl
 obtain ⟨f2, fd2, d2⟩ := A4 (ps := ["top", "bottom"]) X G h5 fun _ _ _ _ _ _ us hl => by obtain ⟨x0, x1, rfl⟩ := FR hl; rfl
 obtain ⟨f3, fd3, d3⟩ := A4 (ps := ["text"]) X G h6 fun _ _ _ _ _ _ us hl => by obtain ⟨x0, rfl⟩ := Fe hl; rfl
 obtain ⟨f4, fd4, d4⟩ := A4 (ps := ["text"]) X G h7 fun _ _ _ _ _ _ us hl => by obtain ⟨x0, rfl⟩ := Fe hl; rfl
 obtain ⟨f5, fd5, d5⟩ := A4 (ps := ["text"]) X G h8 fun _ _ _ _ _ _ us hl => by obtain ⟨x0, rfl⟩ := Fe hl; rfl
 obtain ⟨f6, fd6, d6⟩ := A4 (ps := ["top", "bottom"]) X G h9 fun _ _ _ _ _ _ us hl => by obtain ⟨x0, x1, rfl⟩ := FR hl; rfl
 obtain ⟨f7, fd7, d7⟩ := A4 (ps := ["_law_script", "_law_k"]) X G h10 fun _ _ _ _ _ _ us hl => by obtain ⟨x0, x1, rfl⟩ := FR hl; rfl
 obtain ⟨f8, fd8, d8⟩ := A4 (ps := ["_law_one", "_law_two"]) X G h11 fun _ _ _ _ _ _ us hl => by obtain ⟨x0, x1, rfl⟩ := FR hl; rfl
 obtain ⟨f9, fd9, d9⟩ := A4 (ps := ["_law_found"]) X G h12 fun _ _ _ _ _ _ us hl => by obtain ⟨x0, rfl⟩ := Fe hl; rfl
 obtain ⟨f10, fd10, d10⟩ := A4 (ps := ["_law_found", "_law_due"]) X G h13 fun _ _ _ _ _ _ us hl => by obtain ⟨x0, x1, rfl⟩ := FR hl; rfl
 obtain ⟨f11, fd11, d11⟩ := A4 (ps := ["_law_text"]) X G h14 fun _ _ _ _ _ _ us hl => by obtain ⟨x0, rfl⟩ := Fe hl; rfl
 obtain ⟨f12, fd12, d12⟩ := A4 (ps := ["_law_top", "_law_bottom"]) X G h15 fun _ _ _ _ _ _ us hl => by obtain ⟨x0, x1, rfl⟩ := FR hl; rfl
 obtain ⟨f13, oc, od, sl, kV, dc, pm, an, cd, ct, a, l, c, k⟩ := Fs h16
 obtain ⟨t_FIGURES, ak_FIGURES⟩ := HQ h17
 obtain ⟨t_MOST_FIGURES, ak_MOST_FIGURES⟩ := HU h18
 have e := hfa.symm.trans (PySem.W.mg_of X G a)
 cases e
 let T : Tx K mg := ⟨BA,
  PySem.W.mg_of X G aC_BeachError,
  ex_BeachError,
  BI,
  PySem.W.mg_of X G aC_BadRow,
  ex_BadRow,
  Hb aC_BadRow aC_BadRow h3,
  f1, fd1, d1,
  f2, fd2, d2,
  f3, fd3, d3,
  f4, fd4, d4,
  f5, fd5, d5,
  f6, fd6, d6,
  f7, fd7, d7,
  f8, fd8, d8,
  f9, fd9, d9,
  f10, fd10, d10,
  f11, fd11, d11,
  f12, fd12, d12,
  _, _, ⟨Eu l c k, PySem.W.mg_of X G a, (Eu l c k).binds (ps := ["_law_script"]) fun _ _ _ _ _ _ us hl => by obtain ⟨x0, rfl⟩ := Fe hl; rfl⟩,
  _,
  PySem.W.mg_of X G ak_FIGURES,
  ⟨_, rfl⟩,
  _,
  PySem.W.mg_of X G ak_MOST_FIGURES,
  ⟨_, rfl⟩,
  PySem.W.mg_none_of X G (BD h19),
  PySem.W.mg_none_of X G (BD h20),
  PySem.W.mg_none_of X G (BD h21),
  PySem.W.mg_none_of X G (BD h22),
  PySem.W.mg_none_of X G (BD h23),
  PySem.W.mg_none_of X G (BD h24),
  PySem.W.mg_none_of X G (BD h25),
  PySem.W.mg_none_of X G (BD h26),
  PySem.W.mg_none_of X G (BD h27)⟩
 exact ⟨_, fun s v => .of_eq rfl, fun base _ _ => Io T⟩
end TG
open PySem PySem.W PyProof.Rows
set_option maxRecDepth 100000 in
set_option maxHeartbeats 0 in
theorem PySem.Challenge.cw_throwgate_k32_fractions_as_texts_holds : PySem.Challenge.rw_throwgate_k32_fractions_as_texts.Holds := by
 w_on; o_law
 refine holds_open (q := TG.qv) (loose := TG.DG) (Xt := fun _ => true) (XP := fun _ _ => True) (Yf := fun s => TG.E8 (TG.Kof TG.addrs s.heap)) (Ya := fun _ => TG.Gb) (YP := TG.El TG.addrs TG.E8 TG.Gb) (N := 1826) TG.left (fun w s e => TG.El.of w s e) TG.El.keeps (fun _ _ => trivial) (fun _ _ _ _ _ => trivial) (by rfl) (by rfl) (by rfl) (fun _ _ => TG.Ih rfl) rfl (by assumption) (by decide +kernel) ⟨rfl, rfl, rfl, rfl, rfl, by decide +kernel⟩ ?hw ?hc
 case hw => w_witness2
 case hc =>
  exact TG.HL (l := PySem.Challenge.rw_throwgate_k32_fractions_as_texts) (n := 63) (k := 5) (x := "_law_script") (CX := L2.CX0) (sp := TG.Fh) rfl (by decide) rfl ⟨rfl, by decide, by decide⟩ (fun w mg fa h K KO KX G hmg => TG.JA KO KX G hmg) (fun _ _ a ns hl _ hS => ⟨a, ns, rfl, hS, hl, fun _ => rfl⟩) fun _ _ _ _ z => z
