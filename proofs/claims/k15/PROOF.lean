import PyProof.Rows.All
import Wide.All
import OpenK.AllK
import Wide.FinOn
import PySem.Challenge.RW_rootfast_k15_moved_and_fixed_polynomials
import HandS.Base
import HandS.Call
import HandS.List
import HandS.Comp
import HandS.Exc
import HandS.ExcOwn
import HandS.Words
import HandS.WideBits
import HandS.Wide
import HandS.IsInst
import HandS.Gcd
import HandS.TupAny
import HandS.Text
import HandS.More
import HandS.CallSlots
import HandS.WordsExc
import PyProof.TypeEq
import HandS.Iter
import HandS.RevRange
import HandS.Style
import PyProof.StrBlock2
import HandS.TryOnly
import HandS.Conv
import HandS.TupSets
import KE.KMathG
import HandS.DictTup
import KE.SortData
import HandS.Zip
import HandS.TupMul
import KE.DatumOrd
import KE.KTupSum
import KE.KRevSl
import KE.DataMinMax
import HandS.SortKw
import KE.GoesEnum
import KE.GoesMore
import HandS.FStr
import HandS.Flow
import HandS.Rev
import PyProof.DictMoreH
import HandS.Deep
import KE.KMathGC
import HandS.TryElse
import HandS.ExcIs
set_option Elab.async false
set_option linter.all false
set_option maxRecDepth 100000
set_option maxHeartbeats 1000000
namespace Rf
open PySem PySem.Spec PyProof.Rows L2

/-! ### values without a heap -/
/-- a value: immediate, a tuple of values, an object of the store (by its number), a list that never changes -/
inductive D where
  | non | bl (b : Bool) | int (i : Int) | str (x : Str) | ty (n : String) | tup (xs : List D) | ref (i : Nat) | fro (xs : List D) | kt (xs : List D)
inductive O where
  | lst (xs : List D)
  | dct (kvs : List (List Key × D))
  | dcl (kvs : List (List Key × D))
abbrev Sto := List O
abbrev Env := List (Option D)
inductive R (α : Type) where
  | val (a : α) (S : Sto)
  | exc (c : Str) (S : Sto)

/-- a list of the written part, or one that stands apart from the store -/
def Fro (K : PySem.W.Frag) (φ : Nat → Addr) (n : Nat) (H : Hp) (a : Addr) (xs : List V) : Prop :=
  (L2.Rd H a (.lst xs) ∧ ∀ i, i < n → φ i ≠ a) ∨
    ∃ (o : Obj) (its : Array Value) (n : Nat), K.lookup a = some o ∧ o.cls = .type "list" ∧ o.dict = none ∧ o.data = .seq its n ∧ its.size ≤ sizeLine ∧ Vals xs its.toList
/-- a tuple: tracked, or an object of the module -/
def KtT (K : PySem.W.Frag) (a : Addr) (xs : List V) : Prop :=
    ∃ (o : Obj) (its : Array Value) (n : Nat), K.lookup a = some o ∧ o.cls = .type "tuple" ∧ o.data = .seq its n ∧ its.size ≤ sizeLine ∧ Vals xs its.toList
def TuT (K : PySem.W.Frag) (H : Hp) (a : Addr) (xs : List V) : Prop := H a = some (.tup xs) ∨ KtT K a xs
theorem TuT.sq {K : PySem.W.Frag} {H : Hp} {a : Addr} {xs : List V} (h : TuT K H a xs) : SqT K H a xs := h.elim (fun h => .inl (.inl h)) .inr
theorem Fro.sq {K : PySem.W.Frag} {φ : Nat → Addr} {n : Nat} {H : Hp} {a : Addr} {xs : List V} (h : Fro K φ n H a xs) : SqL K H a xs := h.elim (fun h => .inl h.1) .inr

mutual
inductive Rel (K : PySem.W.Frag) (φ : Nat → Addr) (n : Nat) (H : Hp) : V → D → Prop
  | non : Rel K φ n H .non .non
  | bl (b : Bool) : Rel K φ n H (.bl b) (.bl b)
  | int (i : Int) : Rel K φ n H (.int i) (.int i)
  | str (x : Str) : Rel K φ n H (.str x) (.str x)
  | ty (x : String) : Rel K φ n H (.ty x) (.ty x)
  | tup {a : Addr} {xs : List V} {ds : List D} : H a = some (.tup xs) → Rels K φ n H xs ds → Rel K φ n H (.ref a) (.tup ds)
  | kt {a : Addr} {xs : List V} {ds : List D} : KtT K a xs → Rels K φ n H xs ds → Rel K φ n H (.ref a) (.kt ds)
  | fro {a : Addr} {xs : List V} {ds : List D} : Fro K φ n H a xs → Rels K φ n H xs ds → Rel K φ n H (.ref a) (.fro ds)
  | ref {i : Nat} : i < n → Rel K φ n H (.ref (φ i)) (.ref i)
inductive Rels (K : PySem.W.Frag) (φ : Nat → Addr) (n : Nat) (H : Hp) : List V → List D → Prop
  | nil : Rels K φ n H [] []
  | cons {v : V} {vs : List V} {d : D} {ds : List D} : Rel K φ n H v d → Rels K φ n H vs ds → Rels K φ n H (v :: vs) (d :: ds)
end

/-- an object of the store -/
inductive RelO (K : PySem.W.Frag) (φ : Nat → Addr) (n : Nat) (H : Hp) : HO → O → Prop
  | lst {xs : List V} {ds : List D} : Rels K φ n H xs ds → RelO K φ n H (.lst xs) (.lst ds)
  | dct {ks : List (List Key × V)} {kvs : List (List Key × D)} : ks.map (·.1) = kvs.map (·.1) → Rels K φ n H (ks.map (·.2)) (kvs.map (·.2)) → RelO K φ n H (.dT ks) (.dct kvs)
  | dcl {ob : Obj} {ks : List (List Key × V)} {kvs : List (List Key × D)} : ks.map (·.1) = kvs.map (·.1) → Rels K φ n H (ks.map (·.2)) (kvs.map (·.2)) → RelO K φ n H (.frz ob (.dT ks)) (.dcl kvs)
structure Ok (K : PySem.W.Frag) (φ : Nat → Addr) (S : Sto) (H : Hp) : Prop where
  obj : ∀ i o, S[i]? = some o → ∃ ho, H (φ i) = some ho ∧ RelO K φ S.length H ho o
  inj : ∀ i j, i < S.length → j < S.length → φ i = φ j → i = j
/-- the store grows, its objects may change; all else that is tracked stands -/
structure Ext (φ : Nat → Addr) (n : Nat) (H : Hp) (φ' : Nat → Addr) (n' : Nat) (H' : Hp) : Prop where
  le : n ≤ n'
  same : ∀ i, i < n → φ' i = φ i
  keep : ∀ a o, H a = some o → (∀ i, i < n → φ i ≠ a) → H' a = some o
  new : ∀ i, n ≤ i → i < n' → H (φ' i) = none
  dom : ∀ a, H a ≠ none → H' a ≠ none
  frz : ∀ a ob u, H a = some (.frz ob u) → H' a = some (.frz ob u)
theorem Ext.refl (φ : Nat → Addr) (n : Nat) (H : Hp) : Ext φ n H φ n H := ⟨Nat.le_refl _, fun _ _ => rfl, fun _ _ h _ => h, fun i h1 h2 => absurd h2 (by omega), fun _ h => h, fun _ _ _ h => h⟩
theorem Ext.trans {φ φ1 φ2 : Nat → Addr} {n n1 n2 : Nat} {H H1 H2 : Hp} (a : Ext φ n H φ1 n1 H1) (b : Ext φ1 n1 H1 φ2 n2 H2) : Ext φ n H φ2 n2 H2 where
  le := Nat.le_trans a.le b.le
  same := fun i h => (b.same i (Nat.lt_of_lt_of_le h a.le)).trans (a.same i h)
  keep := fun x o h hn => b.keep x o (a.keep x o h hn) fun i hi z => by
    by_cases hlt : i < n
    · exact hn i hlt ((a.same i hlt).symm.trans z)
    · have := a.new i (by omega) hi
      rw [z, h] at this
      cases this
  new := fun i h1 h2 => by
    by_cases hlt : i < n1
    · rw [b.same i hlt]
      exact a.new i h1 hlt
    · have q := b.new i (by omega) h2
      cases e : H (φ2 i) with
      | none => rfl
      | some o => exact absurd q (a.dom _ (by rw [e]; simp))
  dom := fun x h => b.dom x (a.dom x h)
  frz := fun x ob u h => b.frz x ob u (a.frz x ob u h)

section
variable {K : PySem.W.Frag} {φ φ' : Nat → Addr} {S : Sto} {n' : Nat} {H H' : Hp}
theorem Ok.notup (k : Ok K φ S H) {a : Addr} {o : HO} (h : H a = some o) (ho : ∀ xs, o ≠ .lst xs) (hd : ∀ ks, o ≠ .dT ks) (hf : ∀ ob ks, o ≠ .frz ob (.dT ks)) : ∀ i, i < S.length → φ i ≠ a := fun i hi z => by
  obtain ⟨ho', e, r⟩ := k.obj i S[i] (List.getElem?_eq_getElem hi)
  rw [z, h] at e
  cases e
  generalize S[i] = x at r
  cases r with
  | lst _ => exact ho _ rfl
  | dct _ _ => exact hd _ rfl
  | dcl _ _ => exact hf _ _ rfl
theorem Ok.rdH (k : Ok K φ S H) (e : Ext φ S.length H φ' n' H') {a : Addr} {xs : List V} (h : H a = some (.tup xs)) : H' a = some (.tup xs) :=
  e.keep _ _ h (k.notup h (fun _ z => nomatch z) (fun _ z => nomatch z) fun _ _ z => nomatch z)
theorem Ok.rdT (k : Ok K φ S H) (e : Ext φ S.length H φ' n' H') {a : Addr} {xs : List V} (h : TuT K H a xs) : TuT K H' a xs := by
  rcases h with h | h
  · exact .inl (e.keep _ _ h (k.notup h (fun _ z => nomatch z) (fun _ z => nomatch z) fun _ _ z => nomatch z))
  · exact .inr h
theorem Ok.rdF (k : Ok K φ S H) (e : Ext φ S.length H φ' n' H') {a : Addr} {xs : List V} (h : Fro K φ S.length H a xs) : Fro K φ' n' H' a xs := by
  rcases h with ⟨h, hn⟩ | h
  · have hs : H a ≠ none := by
      rcases h with h | ⟨o, h⟩ <;> rw [h] <;> simp
    refine .inl ⟨?_, fun i hi z => ?_⟩
    · rcases h with h | ⟨o, h⟩
      · exact .inl (e.keep _ _ h hn)
      · exact .inr ⟨o, e.keep _ _ h hn⟩
    · by_cases hlt : i < S.length
      · exact hn i hlt ((e.same i hlt).symm.trans z)
      · have q := e.new i (by omega) hi
        rw [z] at q
        exact hs q
  · exact .inr h
mutual
theorem Rel.mono (k : Ok K φ S H) (e : Ext φ S.length H φ' n' H') : ∀ {v : V} {d : D}, Rel K φ S.length H v d → Rel K φ' n' H' v d
  | _, _, .non => .non
  | _, _, .bl b => .bl b
  | _, _, .int i => .int i
  | _, _, .str x => .str x
  | _, _, .ty x => .ty x
  | _, _, .tup h r => .tup (k.rdH e h) (Rels.mono k e r)
  | _, _, .kt h r => .kt h (Rels.mono k e r)
  | _, _, .fro h r => .fro (k.rdF e h) (Rels.mono k e r)
  | _, _, .ref (i := i) h => by
    rw [← e.same i h]
    exact .ref (Nat.lt_of_lt_of_le h e.le)
theorem Rels.mono (k : Ok K φ S H) (e : Ext φ S.length H φ' n' H') : ∀ {v : List V} {d : List D}, Rels K φ S.length H v d → Rels K φ' n' H' v d
  | _, _, .nil => .nil
  | _, _, .cons r t => .cons (Rel.mono k e r) (Rels.mono k e t)
end
end

/-! ### relations of the slots -/
structure RelE (K : PySem.W.Frag) (φ : Nat → Addr) (n : Nat) (H : Hp) (ρ : Env) (σ : L2.St) : Prop where
  len : ρ.length = σ.length
  at_ : ∀ (i : Nat) (d : D), ρ[i]? = some (some d) → ∃ v, σ[i]? = some (some v) ∧ Rel K φ n H v d
theorem RelE.mono {K : PySem.W.Frag} {φ φ' : Nat → Addr} {S : Sto} {n' : Nat} {H H' : Hp} {ρ : Env} {σ : L2.St} (k : Ok K φ S H) (e : Ext φ S.length H φ' n' H') (r : RelE K φ S.length H ρ σ) : RelE K φ' n' H' ρ σ :=
  ⟨r.len, fun i d h => by obtain ⟨v, q, z⟩ := r.at_ i d h; exact ⟨v, q, z.mono k e⟩⟩
theorem RelE.set {K : PySem.W.Frag} {φ : Nat → Addr} {n : Nat} {H : Hp} {ρ : Env} {σ : L2.St} (r : RelE K φ n H ρ σ) (i : Nat) {v : V} {d : D} (h : Rel K φ n H v d) : RelE K φ n H (ρ.set i (some d)) (σ.set i (some v)) := by
  refine ⟨by simp [r.len], fun j e hj => ?_⟩
  by_cases c : i = j
  · subst c
    by_cases hl : i < ρ.length
    · rw [List.getElem?_set_self hl] at hj
      cases hj
      exact ⟨v, List.getElem?_set_self (by rw [← r.len]; exact hl), h⟩
    · rw [List.getElem?_eq_none (by simp; omega)] at hj
      cases hj
  · rw [List.getElem?_set_ne c] at hj
    obtain ⟨w, q, z⟩ := r.at_ j e hj
    exact ⟨w, by rw [List.getElem?_set_ne c]; exact q, z⟩
theorem RelE.unset {K : PySem.W.Frag} {φ : Nat → Addr} {n : Nat} {H : Hp} {ρ : Env} {σ : L2.St} (r : RelE K φ n H ρ σ) (i : Nat) {v : Option V} : RelE K φ n H (ρ.set i none) (σ.set i v) := by
  refine ⟨by simp [r.len], fun j e hj => ?_⟩
  by_cases c : i = j
  · subst c
    by_cases hl : i < ρ.length
    · rw [List.getElem?_set_self hl] at hj
      cases hj
    · rw [List.getElem?_eq_none (by simp; omega)] at hj
      cases hj
  · rw [List.getElem?_set_ne c] at hj
    obtain ⟨w, q, z⟩ := r.at_ j e hj
    exact ⟨w, by rw [List.getElem?_set_ne c]; exact q, z⟩

/-! ### readings -/
abbrev RelT (β α : Type) := (Nat → Addr) → Nat → Hp → β → α → Prop
class Mono (K : PySem.W.Frag) {β α : Type} (rel : RelT β α) : Prop where
  mono : ∀ {φ : Nat → Addr} {S : Sto} {H : Hp} {φ' : Nat → Addr} {n' : Nat} {H' : Hp} {b : β} {a : α}, Ok K φ S H → Ext φ S.length H φ' n' H' → rel φ S.length H b a → rel φ' n' H' b a
instance {K : PySem.W.Frag} : Mono K (Rel K) := ⟨fun k e r => r.mono k e⟩
instance {K : PySem.W.Frag} : Mono K (Rels K) := ⟨fun k e r => r.mono k e⟩
def RelB {α : Type} : RelT α α := fun _ _ _ b a => b = a
instance {K : PySem.W.Frag} {α : Type} : Mono K (RelB (α := α)) := ⟨fun _ _ r => r⟩

variable (K : PySem.W.Frag) (ec : Str → Value)
section
variable {α β γ δ : Type}
def KV (rel : RelT β α) (W : WX) (φ : Nat → Addr) (n : Nat) (σ : L2.St) (H : Hp) (Q : β → Hp → Prop) : R α → Prop
  | .val a S' => ∀ φ' H' b, Ext φ n H φ' S'.length H' → Ok K φ' S' H' → rel φ' S'.length H' b a → Q b H'
  | .exc c S' => ∀ φ' H', Ext φ n H φ' S'.length H' → Ok K φ' S' H' → W (ec c) none σ H'
variable {K ec}
theorem KV.ext {rel : RelT β α} {W : WX} {φ φ1 : Nat → Addr} {n n1 : Nat} {σ : L2.St} {H H1 : Hp} {Q : β → Hp → Prop} {r : R α} (e : Ext φ n H φ1 n1 H1) (h : KV K ec rel W φ n σ H Q r) : KV K ec rel W φ1 n1 σ H1 Q r := by
  cases r with
  | val a S' => exact fun φ' H' b e' => h φ' H' b (e.trans e')
  | exc c S' => exact fun φ' H' e' => h φ' H' (e.trans e')
theorem KV.imp {rel : RelT β α} {W : WX} {φ : Nat → Addr} {n : Nat} {σ : L2.St} {H : Hp} {Q Q' : β → Hp → Prop} {r : R α} (hq : ∀ b H, Q b H → Q' b H) (h : KV K ec rel W φ n σ H Q r) : KV K ec rel W φ n σ H Q' r := by
  cases r with
  | val a S' => exact fun φ' H' b e o r => hq _ _ (h φ' H' b e o r)
  | exc c S' => exact h
abbrev M (α : Type) := Env → Sto → Option (R α)
def mB (m : M γ) (k : γ → M α) : M α := fun ρ S => match m ρ S with
  | none => none
  | some (.exc c S1) => some (.exc c S1)
  | some (.val a S1) => k a ρ S1
def mRet (a : α) : M α := fun _ S => some (.val a S)
variable (K ec)
/-- a reading by m -/
def rd (rel : RelT β α) (W : WX) (m : M α) : L2.St → Hp → (β → Hp → Prop) → Prop := fun σ H Q =>
  ∃ (φ : Nat → Addr) (S : Sto) (ρ : Env), Ok K φ S H ∧ RelE K φ S.length H ρ σ ∧ ∃ r, m ρ S = some r ∧ KV K ec rel W φ S.length σ H Q r
variable {K ec}
/-- the state between two evaluations: C is what is carried -/
structure Cf (K : PySem.W.Frag) (ec : Str → Value) (rel : RelT β α) (W : WX) (C : (Nat → Addr) → Nat → Hp → Prop) (φ : Nat → Addr) (S : Sto) (ρ : Env) (σ : L2.St) (H : Hp) (Q : β → Hp → Prop) (k : Sto → Option (R α)) : Prop where
  ok : Ok K φ S H
  env : RelE K φ S.length H ρ σ
  car : C φ S.length H
  run : ∃ r, k S = some r ∧ KV K ec rel W φ S.length σ H Q r
def MonoC (K : PySem.W.Frag) (C : (Nat → Addr) → Nat → Hp → Prop) : Prop := ∀ (φ : Nat → Addr) (S : Sto) (H : Hp) (φ' : Nat → Addr) (n' : Nat) (H' : Hp), Ok K φ S H → Ext φ S.length H φ' n' H' → C φ S.length H → C φ' n' H'
theorem monoC_true : MonoC K fun _ _ _ => True := fun _ _ _ _ _ _ _ _ _ => trivial
theorem monoC_rel {rel : RelT β α} [Mono K rel] {b : β} {a : α} : MonoC K fun φ n H => rel φ n H b a := fun _ _ _ _ _ _ k e r => Mono.mono k e r
theorem monoC_and {C C' : (Nat → Addr) → Nat → Hp → Prop} (h : MonoC K C) (h' : MonoC K C') : MonoC K fun φ n H => C φ n H ∧ C' φ n H := fun φ S H φ' n' H' k e r => ⟨h _ _ _ _ _ _ k e r.1, h' _ _ _ _ _ _ k e r.2⟩
/-- one evaluation ahead -/
theorem Cf.bind {rel : RelT β α} {rel1 : RelT δ γ} {W : WX} {C : (Nat → Addr) → Nat → Hp → Prop} (hC : MonoC K C) {φ : Nat → Addr} {S : Sto} {ρ : Env} {σ : L2.St} {H : Hp} {Q : β → Hp → Prop} {m : M γ} {k : γ → M α} (c : Cf K ec rel W C φ S ρ σ H Q (mB m k ρ)) :
    rd K ec rel1 W m σ H fun x H1 => ∃ (φ1 : Nat → Addr) (S1 : Sto) (a : γ), rel1 φ1 S1.length H1 x a ∧ Cf K ec rel W C φ1 S1 ρ σ H1 Q (k a ρ) := by
  obtain ⟨r, e, q⟩ := c.run
  unfold mB at e
  split at e
  · cases e
  · rename_i c1 S1 e1
    cases e
    exact ⟨φ, S, ρ, c.ok, c.env, _, e1, q⟩
  · rename_i a S1 e1
    refine ⟨φ, S, ρ, c.ok, c.env, _, e1, fun φ' H' b ex ok r1 => ⟨φ', S1, a, r1, ok, c.env.mono c.ok ex, hC _ _ _ _ _ _ c.ok ex c.car, r, e, q.ext ex⟩⟩
theorem Cf.start {rel : RelT β α} {W : WX} {σ : L2.St} {H : Hp} {Q : β → Hp → Prop} {m : M α} (h : rd K ec rel W m σ H Q) : ∃ (φ : Nat → Addr) (S : Sto) (ρ : Env), Cf K ec rel W (fun _ _ _ => True) φ S ρ σ H Q (m ρ) := by
  obtain ⟨φ, S, ρ, ok, env, r, e, q⟩ := h
  exact ⟨φ, S, ρ, ok, env, trivial, r, e, q⟩
theorem Cf.carry {rel : RelT β α} {W : WX} {C C' : (Nat → Addr) → Nat → Hp → Prop} {φ : Nat → Addr} {S : Sto} {ρ : Env} {σ : L2.St} {H : Hp} {Q : β → Hp → Prop} {k : Sto → Option (R α)} (c : Cf K ec rel W C φ S ρ σ H Q k) (h : C' φ S.length H) : Cf K ec rel W C' φ S ρ σ H Q k := ⟨c.ok, c.env, h, c.run⟩
/-- the end of an evaluation -/
theorem Cf.done {rel : RelT β α} {W : WX} {C : (Nat → Addr) → Nat → Hp → Prop} {φ : Nat → Addr} {S S' : Sto} {ρ : Env} {σ : L2.St} {H : Hp} {Q : β → Hp → Prop} {k : Sto → Option (R α)} {a : α} {b : β} (c : Cf K ec rel W C φ S ρ σ H Q k)
    (hk : k S = some (.val a S')) {φ' : Nat → Addr} {H' : Hp} (ex : Ext φ S.length H φ' S'.length H') (ok : Ok K φ' S' H') (hr : rel φ' S'.length H' b a) : Q b H' := by
  obtain ⟨r, e, q⟩ := c.run
  rw [hk] at e
  cases e
  exact q φ' H' b ex ok hr
theorem Cf.ret {rel : RelT β α} {W : WX} {C : (Nat → Addr) → Nat → Hp → Prop} {φ : Nat → Addr} {S : Sto} {ρ : Env} {σ : L2.St} {H : Hp} {Q : β → Hp → Prop} {k : Sto → Option (R α)} {a : α} {b : β} (c : Cf K ec rel W C φ S ρ σ H Q k)
    (hk : k S = some (.val a S)) (hr : rel φ S.length H b a) : Q b H := c.done hk (Ext.refl _ _ _) c.ok hr
end

/-! a new object -/
section
variable {K : PySem.W.Frag} {φ : Nat → Addr} {S : Sto} {H : Hp}
theorem ext_imm {p : Addr} {ho : HO} (hp : H p = none) : Ext φ S.length H φ S.length (upd H p ho) := by
  refine ⟨Nat.le_refl _, fun _ _ => rfl, fun a o h _ => ?_, fun i h1 h2 => absurd h2 (by omega), fun a h => ?_, fun a ob u h => ?_⟩
  · rw [upd_ne (ne_of_none h hp)]; exact h
  · by_cases c : a = p
    · rw [c, upd_same]; simp
    · rw [upd_ne c]; exact h
  · rw [upd_ne (ne_of_none h hp)]; exact h
theorem RelO.mono {φ' : Nat → Addr} {n' : Nat} {H' : Hp} (k : Ok K φ S H) (e : Ext φ S.length H φ' n' H') {ho : HO} {o : O} (r : RelO K φ S.length H ho o) : RelO K φ' n' H' ho o := by
  cases r with
  | lst r => exact .lst (r.mono k e)
  | dct h r => exact .dct h (r.mono k e)
  | dcl h r => exact .dcl h (r.mono k e)
/-- a tuple or the like is laid -/
theorem Ok.imm (k : Ok K φ S H) {p : Addr} {ho : HO} (hp : H p = none) : Ok K φ S (upd H p ho) := by
  have ex : Ext φ S.length H φ S.length (upd H p ho) := ext_imm hp
  refine ⟨fun i o h => ?_, k.inj⟩
  obtain ⟨h1, e, r⟩ := k.obj i o h
  exact ⟨h1, by rw [upd_ne (ne_of_none e hp)]; exact e, r.mono k ex⟩
/-- where the new object stands -/
def nxt (φ : Nat → Addr) (n : Nat) (p : Addr) : Nat → Addr := fun i => if i = n then p else φ i
theorem nxt_old {n i : Nat} {p : Addr} (h : i < n) : nxt φ n p i = φ i := by unfold nxt; rw [if_neg (by omega)]
theorem nxt_new {n : Nat} {p : Addr} : nxt φ n p n = p := by unfold nxt; rw [if_pos rfl]
theorem ext_new {p : Addr} {ho : HO} (hp : H p = none) : Ext φ S.length H (nxt φ S.length p) (S.length + 1) (upd H p ho) := by
  refine ⟨Nat.le_succ _, fun i h => nxt_old h, fun a o h _ => ?_, fun i h1 h2 => ?_, fun a h => ?_, fun a ob u h => ?_⟩
  · rw [upd_ne (ne_of_none h hp)]; exact h
  · obtain rfl : i = S.length := by omega
    rw [nxt_new]; exact hp
  · by_cases c : a = p
    · rw [c, upd_same]; simp
    · rw [upd_ne c]; exact h
  · rw [upd_ne (ne_of_none h hp)]; exact h
theorem Ok.new (k : Ok K φ S H) {p : Addr} {ho : HO} {o : O} (hp : H p = none) (r : RelO K φ S.length H ho o) : Ok K (nxt φ S.length p) (S ++ [o]) (upd H p ho) := by
  have ex : Ext φ S.length H (nxt φ S.length p) (S.length + 1) (upd H p ho) := ext_new hp
  have hne : ∀ i, i < S.length → φ i ≠ p := fun i hi z => by
    obtain ⟨h1, e, _⟩ := k.obj i S[i] (List.getElem?_eq_getElem hi)
    rw [z, hp] at e
    cases e
  refine ⟨fun i o' h => ?_, fun i j hi hj z => ?_⟩
  · rw [List.length_append, List.length_singleton]
    by_cases hi : i < S.length
    · rw [List.getElem?_append_left hi] at h
      obtain ⟨h1, e, r1⟩ := k.obj i o' h
      exact ⟨h1, by rw [nxt_old hi, upd_ne (ne_of_none e hp)]; exact e, r1.mono k ex⟩
    · have hl : i < (S ++ [o]).length := by
        by_cases c : i < (S ++ [o]).length
        · exact c
        · rw [List.getElem?_eq_none (by omega)] at h; cases h
      rw [List.length_append, List.length_singleton] at hl
      obtain rfl : i = S.length := by omega
      rw [List.getElem?_append_right (Nat.le_refl _), Nat.sub_self] at h
      cases h
      exact ⟨ho, by rw [nxt_new]; exact upd_same, r.mono k ex⟩
  · rw [List.length_append, List.length_singleton] at hi hj
    by_cases h1 : i < S.length
    · by_cases h2 : j < S.length
      · rw [nxt_old h1, nxt_old h2] at z
        exact k.inj i j h1 h2 z
      · obtain rfl : j = S.length := by omega
        rw [nxt_old h1, nxt_new] at z
        exact absurd z (hne i h1)
    · obtain rfl : i = S.length := by omega
      by_cases h2 : j < S.length
      · rw [nxt_old h2, nxt_new] at z
        exact absurd z.symm (hne j h2)
      · omega
/-- an object of the store changes -/
theorem Ok.ne (k : Ok K φ S H) {i j : Nat} (hi : i < S.length) (hj : j < S.length) (h : i ≠ j) : φ i ≠ φ j := fun z => h (k.inj i j hi hj z)
theorem ext_put (k : Ok K φ S H) {i : Nat} {ho : HO} (hi : i < S.length) (nf : ∀ ob u, H (φ i) ≠ some (.frz ob u)) : Ext φ S.length H φ S.length (upd H (φ i) ho) := by
  refine ⟨Nat.le_refl _, fun _ _ => rfl, fun a o h hn => ?_, fun i h1 h2 => absurd h2 (by omega), fun a h => ?_, fun a ob u h => ?_⟩
  · rw [upd_ne (fun z => hn i hi z.symm)]; exact h
  · by_cases c : a = φ i
    · rw [c, upd_same]; simp
    · rw [upd_ne c]; exact h
  · rw [upd_ne (fun z => nf ob u (by rw [← z]; exact h))]; exact h
theorem nfL {H : Hp} {a : Addr} {us : List V} (h : H a = some (.lst us)) : ∀ ob u, H a ≠ some (.frz ob u) := fun ob u z => by rw [h] at z; cases z
theorem nfD {H : Hp} {a : Addr} {ks : List (List Key × V)} (h : H a = some (.dT ks)) : ∀ ob u, H a ≠ some (.frz ob u) := fun ob u z => by rw [h] at z; cases z
theorem Ok.put (k : Ok K φ S H) {i : Nat} {ho : HO} {o : O} (hi : i < S.length) (nf : ∀ ob u, H (φ i) ≠ some (.frz ob u)) (r : RelO K φ S.length H ho o) : Ok K φ (S.set i o) (upd H (φ i) ho) := by
  have ex : Ext φ S.length H φ S.length (upd H (φ i) ho) := ext_put k hi nf
  refine ⟨fun j o' h => ?_, fun a b ha hb z => k.inj a b (by simpa using ha) (by simpa using hb) z⟩
  rw [List.length_set]
  by_cases c : i = j
  · subst c
    rw [List.getElem?_set_self hi] at h
    cases h
    exact ⟨ho, upd_same, r.mono k ex⟩
  · rw [List.getElem?_set_ne c] at h
    have hj : j < S.length := by
      by_cases q : j < S.length
      · exact q
      · rw [List.getElem?_eq_none (by omega)] at h; cases h
    obtain ⟨h1, e, r1⟩ := k.obj j o' h
    exact ⟨h1, by rw [upd_ne (k.ne hj hi (Ne.symm c))]; exact e, r1.mono k ex⟩
end
end Rf
namespace Rf
open PySem PySem.Spec PyProof.Rows L2

variable {X : Cx} {ec : Str → Value} {W : WX}
def XE (X : Cx) (ec : Str → Value) (W : WX) (e : Expr) (m : M D) : Prop := PE X e (rd X.K ec (Rel X.K) W m)
def XT (X : Cx) (ec : Str → Value) (W : WX) (e : Expr) (m : M Bool) : Prop := PT X e (rd X.K ec RelB W m)
def XA (X : Cx) (ec : Str → Value) (W : WX) (es : List Expr) (m : M (List D)) : Prop := PA X es (rd X.K ec (Rels X.K) W m)

theorem imE {e : Expr} {t t' : TE} (h : PE X e t) (i : ∀ σ H Q, t' σ H Q → t σ H Q) : PE X e t' := ⟨fun pins s σ H Q I q => h.run pins s σ H Q I (i σ H Q q)⟩
theorem imT {e : Expr} {t t' : TT} (h : PT X e t) (i : ∀ σ H Q, t' σ H Q → t σ H Q) : PT X e t' := ⟨fun pins s σ H Q I q => h.run pins s σ H Q I (i σ H Q q)⟩
theorem imA {e : List Expr} {t t' : TA} (h : PA X e t) (i : ∀ σ H Q, t' σ H Q → t σ H Q) : PA X e t' := ⟨fun pos pins s σ H Q I q => h.run pos pins s σ H Q I (i σ H Q q)⟩
theorem orE {e : Expr} {t t' : TE} (h : PE X e t) (h' : PE X e t') : PE X e (fun σ H Q => t σ H Q ∨ t' σ H Q) := ⟨fun pins s σ H Q I q => q.elim (h.run pins s σ H Q I) (h'.run pins s σ H Q I)⟩
theorem rd_imp {K : PySem.W.Frag} {α β : Type} {rel : RelT β α} {m : M α} {σ : L2.St} {H : Hp} {Q Q' : β → Hp → Prop} (h : rd K ec rel W m σ H Q) (hq : ∀ b H, Q b H → Q' b H) : rd K ec rel W m σ H Q' := by
  obtain ⟨φ, S, ρ, ok, env, r, e, q⟩ := h
  exact ⟨φ, S, ρ, ok, env, r, e, q.imp hq⟩

/-! ### names, constants -/
def mVar (i : Nat) : M D := fun ρ S => match ρ[i]? with
  | some (some d) => some (.val d S)
  | _ => none
theorem x_var (i : Nat) {x : Str} {pos : Pos} (hN : X.N[i]? = some x := by rfl) (hv : Vis X.env.scope x := by first | exact Or.inl rfl | exact Or.inr (Or.inl rfl) | exact Or.inr (Or.inr rfl)) (hd : (x == ("__debug__" : Str)) = false := by decide)
    (hcd : (x == ("__classdict__" : Str)) = false := by decide) : XE X ec W (.Name x pos) (mVar i) := imE (pe_var hN hv hd hcd) fun σ H Q h => by
  obtain ⟨φ, S, ρ, ok, env, r, e, q⟩ := h
  unfold mVar at e
  split at e
  · rename_i d hd
    cases e
    obtain ⟨v, hv, rv⟩ := env.at_ i d hd
    exact ⟨v, hv, q φ H v (Ext.refl _ _ _) ok rv⟩
  · cases e
theorem rd_ret {K : PySem.W.Frag} {α β : Type} {rel : RelT β α} {a : α} {b : β} (hr : ∀ φ n H, rel φ n H b a) {σ : L2.St} {H : Hp} {Q : β → Hp → Prop} (h : rd K ec rel W (mRet a) σ H Q) : Q b H := by
  obtain ⟨φ, S, ρ, ok, env, r, e, q⟩ := h
  cases e
  exact q φ H b (Ext.refl _ _ _) ok (hr _ _ _)
theorem x_int {i : Int} {j} {pos : Pos} : XE X ec W (.Constant (.int i) j pos) (mRet (.int i)) := imE pe_int fun _ _ _ h => rd_ret (fun _ _ _ => .int i) h
theorem x_bl {b : Bool} {j} {pos : Pos} : XE X ec W (.Constant (.bool b) j pos) (mRet (.bl b)) := imE pe_bl fun _ _ _ h => rd_ret (fun _ _ _ => .bl b) h
theorem x_non {j} {pos : Pos} : XE X ec W (.Constant .none j pos) (mRet .non) := imE pe_non fun _ _ _ h => rd_ret (fun _ _ _ => .non) h
theorem x_str {x : Str} {j} {pos : Pos} : XE X ec W (.Constant (.str x) j pos) (mRet (.str x)) := imE pe_str fun _ _ _ h => rd_ret (fun _ _ _ => .str x) h
/-- a built-in class as a value -/
theorem x_ty {x : Str} {n : String} {pos : Pos} (hm : X.mg x = none) (hv : bootBuiltins x = some (.type n)) (hg : Gl X x := by rfl) (hn : x ≠ "__name__" := by decide) (hd : (x == ("__debug__" : Str)) = false := by decide) : XE X ec W (.Name x pos) (mRet (.ty n)) :=
  imE (pe_bltn (v := .ty n) (u := .type n) hg hm hv rfl hn hd) fun _ _ _ h => rd_ret (fun _ _ _ => .ty n) h
/-- a constant of the module -/
theorem x_glob {x : Str} {v : V} {d : D} {u : Value} {pos : Pos} (hm : X.mg x = some u) (r : RelV v u) (hr : ∀ φ n H, Rel X.K φ n H v d) (hg : Gl X x := by rfl) (hd : (x == ("__debug__" : Str)) = false := by decide) : XE X ec W (.Name x pos) (mRet d) :=
  imE (pe_glob hg hm r hd) fun _ _ _ h => rd_ret hr h

/-! ### operators -/
abbrev G2 := D → D → Sto → Option (D × Sto)
def OpS (X : Cx) (f : Value → Value → Sem Value) (g : G2) : Prop := ∃ r : R2, OpR X f r ∧ ∀ (φ : Nat → Addr) (S : Sto) (H : Hp) (x y : V) (a b c : D) (S' : Sto), Ok X.K φ S H → Rel X.K φ S.length H x a → Rel X.K φ S.length H y b → g a b S = some (c, S') →
  ∀ Q : VK, (∀ φ' H' v, Ext φ S.length H φ' S'.length H' → Ok X.K φ' S' H' → Rel X.K φ' S'.length H' v c → Q v H') → r x y H Q
def mOp (g : G2) (ma mb : M D) : M D := mB ma fun a => mB mb fun b _ S => match g a b S with
  | some (c, S') => some (.val c S')
  | none => none
theorem rd_op {f : Value → Value → Sem Value} {g : G2} {ma mb : M D} {σ : L2.St} {H : Hp} {Q : VK} {r : R2} (hr : ∀ (φ : Nat → Addr) (S : Sto) (H : Hp) (x y : V) (a b c : D) (S' : Sto), Ok X.K φ S H → Rel X.K φ S.length H x a → Rel X.K φ S.length H y b → g a b S = some (c, S') →
  ∀ Q : VK, (∀ φ' H' v, Ext φ S.length H φ' S'.length H' → Ok X.K φ' S' H' → Rel X.K φ' S'.length H' v c → Q v H') → r x y H Q) (h : rd X.K ec (Rel X.K) W (mOp g ma mb) σ H Q) : tOp r (rd X.K ec (Rel X.K) W ma) (rd X.K ec (Rel X.K) W mb) σ H Q := by
  obtain ⟨φ, S, ρ, c⟩ := Cf.start h
  refine rd_imp (c.bind (rel1 := Rel X.K) monoC_true) fun x H1 ⟨φ1, S1, a, ra, c1⟩ => ?_
  refine rd_imp ((c1.carry ra).bind (rel1 := Rel X.K) monoC_rel) fun y H2 ⟨φ2, S2, b, rb, c2⟩ => ?_
  obtain ⟨r', e, q⟩ := c2.run
  cases hg : g a b S2 with
  | none => rw [hg] at e; cases e
  | some p =>
    obtain ⟨z, S'⟩ := p
    rw [hg] at e
    cases e
    exact hr φ2 S2 H2 x y a b z S' c2.ok c2.car rb hg Q q
theorem x_bin {op : Operator} {g : G2} {a b : Expr} {ma mb : M D} {pos : Pos} (ho : OpS X (binaryOp op) g) (ha : XE X ec W a ma) (hb : XE X ec W b mb) : XE X ec W (.BinOp a op b pos) (mOp g ma mb) := by
  obtain ⟨r, hr, i⟩ := ho
  exact imE (pe_op hr ha hb) fun σ H Q h => rd_op (f := binaryOp op) i h
theorem x_cmp {op : CmpOp} {g : G2} {a b : Expr} {ma mb : M D} {pos : Pos} (ho : OpS X (compareOp op) g) (ha : XE X ec W a ma) (hb : XE X ec W b mb) (hm : behindInMarks op b = false := by first | exact nomark _ | rfl) : XE X ec W (.Compare a [op] [b] pos) (mOp g ma mb) := by
  obtain ⟨r, hr, i⟩ := ho
  exact imE (pe_cmpR hr ha hb hm) fun σ H Q h => rd_op (f := compareOp op) i h
theorem OpS.or {f : Value → Value → Sem Value} {g g' : G2} (h : OpS X f g) (h' : OpS X f g') : OpS X f (fun a b S => match g a b S with | some z => some z | none => g' a b S) := by
  obtain ⟨r, hr, i⟩ := h
  obtain ⟨r', hr', i'⟩ := h'
  refine ⟨_, OpR.or hr hr', fun φ S H x y a b c S' ok ra rb e Q q => ?_⟩
  dsimp only at e
  cases e1 : g a b S with
  | some z =>
    rw [e1] at e
    cases e
    exact .inl (i φ S H x y a b c S' ok ra rb e1 Q q)
  | none =>
    rw [e1] at e
    exact .inr (i' φ S H x y a b c S' ok ra rb e Q q)
/-- another name for the same -/
theorem OpS.to {f : Value → Value → Sem Value} {g g' : G2} (h : OpS X f g) (e : ∀ a b S, g' a b S = g a b S) : OpS X f g' := by
  obtain ⟨r, hr, i⟩ := h
  exact ⟨r, hr, fun φ S H x y a b c S' ok ra rb e1 Q q => i φ S H x y a b c S' ok ra rb (by rw [← e]; exact e1) Q q⟩

/-- ints to a value -/
def gI (C : Int → Int → Bool) (g : Int → Int → D) : G2 := fun a b S => match a, b with
  | .int i, .int j => if C i j then some (g i j, S) else none
  | _, _ => none
theorem opS_I {f : Value → Value → Sem Value} {C : Int → Int → Prop} {c : Int → Int → Bool} {g : Int → Int → V} {g' : Int → Int → D} (ho : OpR X f (rI C g)) (hc : ∀ i j, c i j = true → C i j) (hg : ∀ i j φ n H, Rel X.K φ n H (g i j) (g' i j)) : OpS X f (gI c g') := by
  refine ⟨_, ho, fun φ S H x y a b d S' ok ra rb e Q q => ?_⟩
  unfold gI at e
  split at e
  · split at e
    · rename_i i j h
      cases e
      cases ra
      cases rb
      exact ⟨i, j, rfl, rfl, hc _ _ h, q φ H _ (Ext.refl _ _ _) ok (hg _ _ _ _ _)⟩
    · cases e
  · cases e
theorem opS_I0 {f : Value → Value → Sem Value} {g : Int → Int → V} {g' : Int → Int → D} (ho : OpR X f (rI0 g)) (hg : ∀ i j φ n H, Rel X.K φ n H (g i j) (g' i j)) : OpS X f (gI (fun _ _ => true) g') := by
  refine ⟨_, ho, fun φ S H x y a b d S' ok ra rb e Q q => ?_⟩
  unfold gI at e
  split at e
  · cases e
    cases ra
    cases rb
    exact ⟨_, _, rfl, rfl, q φ H _ (Ext.refl _ _ _) ok (hg _ _ _ _ _)⟩
  · cases e
/-- texts -/
def gS (C : Str → Str → Bool) (g : Str → Str → D) : G2 := fun a b S => match a, b with
  | .str i, .str j => if C i j then some (g i j, S) else none
  | _, _ => none
theorem opS_add_str : OpS X (binaryOp .Add) (gS (fun i j => decide (i.length + j.length ≤ 1000000)) fun i j => .str (i ++ j)) := by
  refine ⟨_, op_add_str, fun φ S H x y a b d S' ok ra rb e Q q => ?_⟩
  unfold gS at e
  split at e
  · split at e
    · rename_i i j h
      cases e
      cases ra
      cases rb
      exact ⟨i, j, rfl, rfl, Nat.le_trans (of_decide_eq_true h) (by decide), q φ H _ (Ext.refl _ _ _) ok (.str _)⟩
    · cases e
  · cases e
theorem Rels.len {K : PySem.W.Frag} {φ : Nat → Addr} {n : Nat} {H : Hp} : ∀ {xs : List V} {ds : List D}, Rels K φ n H xs ds → xs.length = ds.length
  | _, _, .nil => rfl
  | _, _, .cons _ t => by rw [List.length_cons, List.length_cons, Rels.len t]
theorem Rels.app {K : PySem.W.Frag} {φ : Nat → Addr} {n : Nat} {H : Hp} : ∀ {xs ys : List V} {ds es : List D}, Rels K φ n H xs ds → Rels K φ n H ys es → Rels K φ n H (xs ++ ys) (ds ++ es)
  | _, _, _, _, .nil, s => s
  | _, _, _, _, .cons r t, s => .cons r (Rels.app t s)
theorem Rels.get {K : PySem.W.Frag} {φ : Nat → Addr} {n : Nat} {H : Hp} : ∀ {xs : List V} {ds : List D} (i : Nat) {d : D}, Rels K φ n H xs ds → ds[i]? = some d → ∃ v, xs[i]? = some v ∧ Rel K φ n H v d
  | _, _, _, _, .nil, e => by simp at e
  | _, _, 0, _, .cons r _, e => by simp at e; subst e; exact ⟨_, rfl, r⟩
  | _, _, i + 1, _, .cons _ t, e => by
    obtain ⟨v, h, r⟩ := Rels.get i t (by simpa using e)
    exact ⟨v, by simpa using h, r⟩
theorem Rels.drop {K : PySem.W.Frag} {φ : Nat → Addr} {n : Nat} {H : Hp} : ∀ {xs : List V} {ds : List D} (i : Nat), Rels K φ n H xs ds → Rels K φ n H (xs.drop i) (ds.drop i)
  | _, _, 0, r => r
  | _, _, _ + 1, .nil => .nil
  | _, _, i + 1, .cons _ t => Rels.drop i t
theorem Rels.take {K : PySem.W.Frag} {φ : Nat → Addr} {n : Nat} {H : Hp} : ∀ {xs : List V} {ds : List D} (i : Nat), Rels K φ n H xs ds → Rels K φ n H (xs.take i) (ds.take i)
  | _, _, 0, _ => .nil
  | _, _, _ + 1, .nil => .nil
  | _, _, i + 1, .cons r t => .cons r (Rels.take i t)
theorem Rels.rev {K : PySem.W.Frag} {φ : Nat → Addr} {n : Nat} {H : Hp} : ∀ {xs : List V} {ds : List D}, Rels K φ n H xs ds → Rels K φ n H xs.reverse ds.reverse
  | _, _, .nil => .nil
  | _, _, .cons r t => by
    rw [List.reverse_cons, List.reverse_cons]
    exact (Rels.rev t).app (.cons r .nil)
theorem Rels.nil_iff {K : PySem.W.Frag} {φ : Nat → Addr} {n : Nat} {H : Hp} {xs : List V} {ds : List D} (r : Rels K φ n H xs ds) : xs = [] ↔ ds = [] := by
  cases r <;> simp
def gT (C : List D → List D → Bool) (g : List D → List D → D) : G2 := fun a b S => match a, b with
  | .tup xs, .tup ys => if C xs ys then some (g xs ys, S) else none
  | _, _ => none
theorem szl {n : Nat} (h : n ≤ 1000000) : n ≤ sizeLine := Nat.le_trans h (by decide)
theorem opS_cat_tup : OpS X (binaryOp .Add) (gT (fun xs ys => decide (xs.length + ys.length ≤ 1000000)) fun xs ys => .tup (xs ++ ys)) := by
  refine ⟨_, op_catA, fun φ S H x y a b d S' ok ra rb e Q q => ?_⟩
  unfold gT at e
  split at e
  · split at e
    · rename_i xs ys h
      cases e
      cases ra with
      | tup h1 r1 =>
        cases rb with
        | tup h2 r2 =>
          refine ⟨_, _, _, _, rfl, rfl, .inl (.inl h1), .inl (.inl h2), ?_, fun z => ?_, fun z z2 => ?_, fun z z2 p hp => ?_⟩
          · rw [r1.len, r2.len]; exact szl (of_decide_eq_true h)
          · have e0 := r1.nil_iff.mp z
            subst e0
            exact q φ H _ (Ext.refl _ _ _) ok (.tup h2 r2)
          · have e0 := r2.nil_iff.mp z2
            subst e0
            refine q φ H _ (Ext.refl _ _ _) ok (.tup h1 ?_)
            rw [List.append_nil]; exact r1
          · exact q φ _ _ (ext_imm hp) (ok.imm hp) (.tup upd_same ((r1.app r2).mono ok (ext_imm hp)))
    · cases e
  · cases e
/-- two lists joined into a new one -/
def gCat : G2 := fun a b S => match a, b with
  | .ref i, .ref j => match S[i]?, S[j]? with
    | some (.lst xs), some (.lst ys) => if xs.length + ys.length ≤ 1000000 then some (.ref S.length, S ++ [.lst (xs ++ ys)]) else none
    | _, _ => none
  | _, _ => none
theorem Ok.lst {K : PySem.W.Frag} {φ : Nat → Addr} {S : Sto} {H : Hp} (ok : Ok K φ S H) {i : Nat} {ds : List D} (h : S[i]? = some (.lst ds)) : ∃ xs, H (φ i) = some (.lst xs) ∧ Rels K φ S.length H xs ds := by
  obtain ⟨ho, e, r⟩ := ok.obj i _ h
  cases r with
  | lst r => exact ⟨_, e, r⟩
theorem opS_cat_lst : OpS X (binaryOp .Add) gCat := by
  refine ⟨_, op_cat, fun φ S H x y a b d S' ok ra rb e Q q => ?_⟩
  unfold gCat at e
  split at e
  · split at e
    · split at e
      · rename_i i j xs ys hi hj h
        cases e
        cases ra
        cases rb
        obtain ⟨us, h1, r1⟩ := ok.lst hi
        obtain ⟨ws, h2, r2⟩ := ok.lst hj
        refine ⟨_, _, us, ws, rfl, rfl, h1, h2, by rw [r1.len, r2.len]; exact szl h, fun p hp => ?_⟩
        have ex := ext_new (S := S) (φ := φ) (H := H) (ho := .lst (us ++ ws)) hp
        refine q (nxt φ S.length p) _ _ (by rw [List.length_append, List.length_singleton]; exact ex) (ok.new hp (.lst (r1.app r2))) ?_
        rw [List.length_append, List.length_singleton]
        have := @Rel.ref X.K (nxt φ S.length p) (S.length + 1) (upd H p (.lst (us ++ ws))) S.length (Nat.lt_succ_self _)
        rw [nxt_new] at this
        exact this
      · cases e
    · cases e
  · cases e

/-! the operators -/
def mulOk (i j : Int) : Bool := decide (i.natAbs < 2 ^ 63) || decide (j.natAbs < 2 ^ 63) || decide (i.natAbs.log2 + j.natAbs.log2 < 1000000)
def CMulA (i j : Int) : Prop := CMul i j ∨ CMulW i j
theorem op_mulA : OpR X (binaryOp .Mult) (rI CMulA fun i j => .int (i * j)) := opI fun _ _ _ _ _ _ _ hc q => mul_int q (hc.elim CMul.ok CMulW.ok)
theorem mulOk_of {i j : Int} (h : mulOk i j = true) : CMulA i j := by
  unfold mulOk at h
  rw [Bool.or_eq_true, Bool.or_eq_true] at h
  rcases h with (h | h) | h
  · have := of_decide_eq_true h
    exact .inl (.inl ⟨by omega, by omega⟩)
  · have := of_decide_eq_true h
    exact .inl (.inr ⟨by omega, by omega⟩)
  · exact .inr (of_decide_eq_true (p := i.natAbs.log2 + j.natAbs.log2 < 1000000) h)
def divOk (_ j : Int) : Bool := decide (j ≠ 0) && decide (j.natAbs.log2 < 9000)
def orG (g g' : G2) : G2 := fun a b S => match g a b S with
  | some z => some z
  | none => g' a b S
def gAdd : G2 := orG (gI (fun _ _ => true) fun i j => .int (i + j)) (orG (gS (fun i j => decide (i.length + j.length ≤ 1000000)) fun i j => .str (i ++ j)) (orG (gT (fun xs ys => decide (xs.length + ys.length ≤ 1000000)) fun xs ys => .tup (xs ++ ys)) gCat))
theorem opS_add : OpS X (binaryOp .Add) gAdd := (opS_I0 op_add fun _ _ _ _ _ => .int _).or (opS_add_str.or (opS_cat_tup.or opS_cat_lst))
abbrev gSub : G2 := gI (fun _ _ => true) fun i j => .int (i - j)
theorem opS_sub : OpS X (binaryOp .Sub) gSub := opS_I0 op_sub fun _ _ _ _ _ => .int _
abbrev gMul : G2 := gI mulOk fun i j => .int (i * j)
theorem opS_mul : OpS X (binaryOp .Mult) gMul := opS_I op_mulA (fun _ _ h => mulOk_of h) fun _ _ _ _ _ => .int _
def CDivA (i j : Int) : Prop := j ≠ 0 ∧ j.natAbs.log2 < 9000
theorem op_fdivA : OpR X (binaryOp .FloorDiv) (rI CDivA fun i j => .int (i.fdiv j)) := opI fun i j _ _ _ _ _ hc q => floordiv_int hc.1 q (.inl (PyProof.noPylong_of_log2 hc.2))
abbrev gDiv : G2 := gI divOk fun i j => .int (i.fdiv j)
theorem opS_div : OpS X (binaryOp .FloorDiv) gDiv := opS_I op_fdivA (fun i j h => by
  unfold divOk at h
  rw [Bool.and_eq_true] at h
  exact ⟨of_decide_eq_true h.1, of_decide_eq_true h.2⟩) fun _ _ _ _ _ => .int _
abbrev gMod : G2 := gI (fun _ j => decide (j ≠ 0)) fun i j => .int (i.fmod j)
theorem opS_mod : OpS X (binaryOp .Mod) gMod := opS_I op_modN (fun _ _ h => of_decide_eq_true h) fun _ _ _ _ _ => .int _
abbrev gPow : G2 := gI (fun i j => decide (0 ≤ j) && decide (j ≤ 1000000) && decide (i.natAbs < 2 ^ 64)) fun i j => .int (i ^ j.toNat)
theorem opS_pow : OpS X (binaryOp .Pow) gPow := opS_I op_pow (fun i j h => by
  rw [Bool.and_eq_true, Bool.and_eq_true] at h
  exact ⟨of_decide_eq_true h.1.1, of_decide_eq_true h.1.2, of_decide_eq_true h.2⟩) fun _ _ _ _ _ => .int _
abbrev gShr : G2 := gI (fun _ j => decide (0 ≤ j)) fun i j => .int (i / 2 ^ j.toNat)
theorem opS_shr : OpS X (binaryOp .RShift) gShr := opS_I op_shr (fun _ _ h => of_decide_eq_true h) fun _ _ _ _ _ => .int _
abbrev gShl : G2 := gI (fun i j => decide (0 ≤ j) && decide ((Builtin.Int.intBits i : Int) + j ≤ 2 ^ 27)) fun i j => .int (i * 2 ^ j.toNat)
theorem opS_shl : OpS X (binaryOp .LShift) gShl := opS_I op_shlW (fun i j h => by
  rw [Bool.and_eq_true] at h
  exact ⟨of_decide_eq_true h.1, of_decide_eq_true h.2⟩) fun _ _ _ _ _ => .int _
abbrev gAnd : G2 := gI (fun _ _ => true) fun i j => .int (Builtin.bitAnd i j)
theorem opS_and : OpS X (binaryOp .BitAnd) gAnd := opS_I0 op_and fun _ _ _ _ _ => .int _
abbrev gLt : G2 := gI (fun _ _ => true) fun i j => .bl (decide (i < j))
theorem opS_lt : OpS X (compareOp .Lt) gLt := opS_I0 op_lt fun _ _ _ _ _ => .bl _
abbrev gLe : G2 := gI (fun _ _ => true) fun i j => .bl (decide (i ≤ j))
theorem opS_le : OpS X (compareOp .LtE) gLe := opS_I0 op_le fun _ _ _ _ _ => .bl _
abbrev gGt : G2 := gI (fun _ _ => true) fun i j => .bl (decide (j < i))
theorem opS_gt : OpS X (compareOp .Gt) gGt := opS_I0 op_gt fun _ _ _ _ _ => .bl _
abbrev gGe : G2 := gI (fun _ _ => true) fun i j => .bl (decide (j ≤ i))
theorem opS_ge : OpS X (compareOp .GtE) gGe := opS_I0 op_ge fun _ _ _ _ _ => .bl _
end Rf
namespace Rf
open PySem PySem.Spec PyProof.Rows L2

variable {X : Cx} {ec : Str → Value} {W : WX}
/-! ### one value to another -/
abbrev G1 := D → Sto → Option (D × Sto)
def mUn (g : G1) (ma : M D) : M D := mB ma fun a _ S => match g a S with
  | some (c, S') => some (.val c S')
  | none => none
def gNeg : G1 := fun a S => match a with
  | .int i => some (.int (-i), S)
  | _ => none
theorem x_neg {a : Expr} {ma : M D} {pos : Pos} (ha : XE X ec W a ma) : XE X ec W (.UnaryOp .USub a pos) (mUn gNeg ma) := imE (pe_un un_neg ha) fun σ H Q h => by
  obtain ⟨φ, S, ρ, c⟩ := Cf.start h
  refine rd_imp (c.bind (rel1 := Rel X.K) monoC_true) fun x H1 ⟨φ1, S1, a, ra, c1⟩ => ?_
  obtain ⟨r', e, q⟩ := c1.run
  cases a <;> first | cases e | skip
  cases ra
  exact ⟨_, rfl, q φ1 H1 _ (Ext.refl _ _ _) c1.ok (.int _)⟩
def gNot : G1 := fun a S => match a with
  | .bl i => some (.bl (!i), S)
  | _ => none
theorem x_not {a : Expr} {ma : M D} {pos : Pos} (ha : XE X ec W a ma) : XE X ec W (.UnaryOp .Not a pos) (mUn gNot ma) := imE (pe_not ha) fun σ H Q h => by
  obtain ⟨φ, S, ρ, c⟩ := Cf.start h
  refine rd_imp (c.bind (rel1 := Rel X.K) monoC_true) fun x H1 ⟨φ1, S1, a, ra, c1⟩ => ?_
  obtain ⟨r', e, q⟩ := c1.run
  cases a <;> first | cases e | skip
  cases ra
  exact ⟨_, rfl, q φ1 H1 _ (Ext.refl _ _ _) c1.ok (.bl _)⟩

/-! ### and, or: values, all but the last True or False -/
theorem x_one {op} {a : Expr} {ma : M D} {pos : Pos} (ha : XE X ec W a ma) : XE X ec W (.BoolOp op [a] pos) ma := pe_one ha
def mAndV (ma mb : M D) : M D := mB ma fun a => match a with
  | .bl true => mb
  | .bl false => mRet (.bl false)
  | _ => fun _ _ => none
def mOrV (ma mb : M D) : M D := mB ma fun a => match a with
  | .bl true => mRet (.bl true)
  | .bl false => mb
  | _ => fun _ _ => none
/-- what is left of an evaluation is a reading -/
theorem Cf.rest {K : PySem.W.Frag} {α β : Type} {rel : RelT β α} {C : (Nat → Addr) → Nat → Hp → Prop} {φ : Nat → Addr} {S : Sto} {ρ : Env} {σ : L2.St} {H : Hp} {Q : β → Hp → Prop} {m : M α} (c : Cf K ec rel W C φ S ρ σ H Q (m ρ)) : rd K ec rel W m σ H Q :=
  let ⟨r, e, q⟩ := c.run
  ⟨φ, S, ρ, c.ok, c.env, r, e, q⟩
theorem x_andV {a b : Expr} {rest : List Expr} {ma mb : M D} {pos : Pos} (ha : XE X ec W a ma) (hb : XE X ec W (.BoolOp .And (b :: rest) pos) mb) : XE X ec W (.BoolOp .And (a :: b :: rest) pos) (mAndV ma mb) := imE (pe_and ha hb) fun σ H Q h => by
  obtain ⟨φ, S, ρ, c⟩ := Cf.start h
  refine rd_imp (c.bind (rel1 := Rel X.K) monoC_true) fun x H1 ⟨φ1, S1, a, ra, c1⟩ => ?_
  cases a with
  | bl k =>
    cases ra
    refine ⟨k, rfl, ?_⟩
    cases k with
    | true => exact iteT c1.rest
    | false => exact iteF (c1.ret rfl (.bl false))
  | _ => obtain ⟨_, e, _⟩ := c1.run; cases e
theorem x_orV {a b : Expr} {rest : List Expr} {ma mb : M D} {pos : Pos} (ha : XE X ec W a ma) (hb : XE X ec W (.BoolOp .Or (b :: rest) pos) mb) : XE X ec W (.BoolOp .Or (a :: b :: rest) pos) (mOrV ma mb) := imE (pe_or ha hb) fun σ H Q h => by
  obtain ⟨φ, S, ρ, c⟩ := Cf.start h
  refine rd_imp (c.bind (rel1 := Rel X.K) monoC_true) fun x H1 ⟨φ1, S1, a, ra, c1⟩ => ?_
  cases a with
  | bl k =>
    cases ra
    refine ⟨k, rfl, ?_⟩
    cases k with
    | true => exact iteT (c1.ret rfl (.bl true))
    | false => exact iteF c1.rest
  | _ => obtain ⟨_, e, _⟩ := c1.run; cases e

/-! ### tests -/
def mT (m : M D) : M Bool := mB m fun a => match a with
  | .bl c => mRet c
  | _ => fun _ _ => none
theorem x_test {a : Expr} {ma : M D} (ha : XE X ec W a ma) (he : ∀ whole, isTrue a X.env whole = (do let v ← whole; standAt a.pos; holding [v] (truthy v)) := by intro _; rfl) : XT X ec W a (mT ma) := imT (pt_val ha he) fun σ H Q h => by
  obtain ⟨φ, S, ρ, c⟩ := Cf.start h
  refine rd_imp (c.bind (rel1 := Rel X.K) monoC_true) fun x H1 ⟨φ1, S1, a, ra, c1⟩ => ?_
  obtain ⟨r', e, q⟩ := c1.run
  cases a <;> first | cases e | skip
  cases ra
  exact ⟨_, rfl, q φ1 H1 _ (Ext.refl _ _ _) c1.ok rfl⟩
theorem xt_cmp {op : CmpOp} {g : G2} {a b : Expr} {ma mb : M D} {pos : Pos} (ho : OpS X (compareOp op) g) (ha : XE X ec W a ma) (hb : XE X ec W b mb) (hm : behindInMarks op b = false := by first | exact nomark _ | rfl) : XT X ec W (.Compare a [op] [b] pos) (mT (mOp g ma mb)) := by
  obtain ⟨r, hr, i⟩ := ho
  refine imT (pt_cmpR hr ha hb hm) fun σ H Q h => ?_
  refine rd_op (f := compareOp op) (ec := ec) (W := W) i ?_
  obtain ⟨φ, S, ρ, c⟩ := Cf.start h
  refine rd_imp (c.bind (rel1 := Rel X.K) monoC_true) fun x H1 ⟨φ1, S1, a, ra, c1⟩ => ?_
  obtain ⟨r', e, q⟩ := c1.run
  cases a <;> first | cases e | skip
  cases ra
  exact ⟨_, rfl, q φ1 H1 _ (Ext.refl _ _ _) c1.ok rfl⟩
/-- the truth of any value -/
def truD : D → Sto → Option Bool := fun a S => match a with
  | .non => some false
  | .bl c => some c
  | .int i => some (i != 0)
  | .str y => if y.length ≤ 1000000 then some ((y.length : Int) != 0) else none
  | .tup xs => some (!xs.isEmpty)
  | .fro xs => some (!xs.isEmpty)
  | .ref i => match S[i]? with
    | some (.lst xs) => some (!xs.isEmpty)
    | _ => none
  | _ => none
def mTru (m : M D) : M Bool := mB m fun a _ S => match truD a S with
  | some c => some (.val c S)
  | none => none
theorem Rels.empty {K : PySem.W.Frag} {φ : Nat → Addr} {n : Nat} {H : Hp} {xs : List V} {ds : List D} (r : Rels K φ n H xs ds) : xs.isEmpty = ds.isEmpty := by cases r <;> rfl
theorem x_truth {a : Expr} {ma : M D} (ha : XE X ec W a ma) (he : ∀ whole, isTrue a X.env whole = (do let v ← whole; standAt a.pos; holding [v] (truthy v)) := by intro _; rfl) : XT X ec W a (mTru ma) := imT (pt_truth ha he) fun σ H Q h => by
  obtain ⟨φ, S, ρ, c⟩ := Cf.start h
  refine rd_imp (c.bind (rel1 := Rel X.K) monoC_true) fun x H1 ⟨φ1, S1, a, ra, c1⟩ => ?_
  obtain ⟨r', e, q⟩ := c1.run
  cases hc : truD a S1 with
  | none => rw [hc] at e; cases e
  | some k =>
    rw [hc] at e
    cases e
    refine ⟨k, ?_, q φ1 H1 _ (Ext.refl _ _ _) c1.ok rfl⟩
    cases ra with
    | non => cases hc; rfl
    | bl b => cases hc; rfl
    | int i => cases hc; rfl
    | str y =>
      unfold truD at hc
      dsimp only at hc
      split at hc
      · cases hc; exact ⟨szl (by assumption), rfl⟩
      · cases hc
    | ty _ => cases hc
    | tup h r => cases hc; exact .inr (.inl ⟨_, .inl (.inl h), by rw [r.empty]⟩)
    | kt _ _ => cases hc
    | fro h r => cases hc; exact .inl ⟨_, h.sq, by rw [r.empty]⟩
    | ref hi =>
      unfold truD at hc
      dsimp only at hc
      split at hc
      · rename_i xs hx
        cases hc
        obtain ⟨us, h1, r1⟩ := c1.ok.lst hx
        exact .inl ⟨us, SqL.of h1, by rw [r1.empty]⟩
      · cases hc
def mNotB (m : M Bool) : M Bool := mB m fun c => mRet (!c)
theorem xt_not {a : Expr} {ma : M Bool} {pos : Pos} (ha : XT X ec W a ma) : XT X ec W (.UnaryOp .Not a pos) (mNotB ma) := imT (pt_not ha) fun σ H Q h => by
  obtain ⟨φ, S, ρ, c⟩ := Cf.start h
  refine rd_imp (c.bind (rel1 := RelB) monoC_true) fun x H1 ⟨φ1, S1, a, ra, c1⟩ => ?_
  cases ra
  exact c1.ret rfl rfl
def XW (X : Cx) (ec : Str → Value) (W : WX) (e : Expr) (m : M Bool) : Prop := PW X e (rd X.K ec RelB W m)
theorem imW {e : Expr} {t t' : TT} (h : PW X e t) (i : ∀ σ H Q, t' σ H Q → t σ H Q) : PW X e t' := ⟨fun wh pins s σ H Q I q => h.run wh pins s σ H Q I (i σ H Q q)⟩
theorem XW.xt {e : Expr} {m : M Bool} (h : XW X ec W e m) : XT X ec W e m := PW.pt h
def mAnd (ma mb : M Bool) : M Bool := mB ma fun c => match c with
  | true => mb
  | false => mRet false
def mOr (ma mb : M Bool) : M Bool := mB ma fun c => match c with
  | true => mRet true
  | false => mb
theorem xw_and1 {a : Expr} {ma : M Bool} {pos : Pos} (ha : XT X ec W a ma) : XW X ec W (.BoolOp .And [a] pos) ma := pw_and1 ha
theorem xw_or1 {a : Expr} {ma : M Bool} {pos : Pos} (ha : XT X ec W a ma) : XW X ec W (.BoolOp .Or [a] pos) ma := pw_or1 ha
theorem xw_and {a b : Expr} {rest : List Expr} {ma mb : M Bool} {pos : Pos} (ha : XT X ec W a ma) (hb : XW X ec W (.BoolOp .And (b :: rest) pos) mb) : XW X ec W (.BoolOp .And (a :: b :: rest) pos) (mAnd ma mb) := imW (pw_and ha hb) fun σ H Q h => by
  obtain ⟨φ, S, ρ, c⟩ := Cf.start h
  refine rd_imp (c.bind (rel1 := RelB) monoC_true) fun x H1 ⟨φ1, S1, k, ra, c1⟩ => ?_
  cases ra
  cases x with
  | true => exact iteT c1.rest
  | false => exact iteF (c1.ret rfl rfl)
theorem xw_or {a b : Expr} {rest : List Expr} {ma mb : M Bool} {pos : Pos} (ha : XT X ec W a ma) (hb : XW X ec W (.BoolOp .Or (b :: rest) pos) mb) : XW X ec W (.BoolOp .Or (a :: b :: rest) pos) (mOr ma mb) := imW (pw_or ha hb) fun σ H Q h => by
  obtain ⟨φ, S, ρ, c⟩ := Cf.start h
  refine rd_imp (c.bind (rel1 := RelB) monoC_true) fun x H1 ⟨φ1, S1, k, ra, c1⟩ => ?_
  cases ra
  cases x with
  | true => exact iteT (c1.ret rfl rfl)
  | false => exact iteF c1.rest
def mIf {α : Type} (mc : M Bool) (ma mb : M α) : M α := mB mc fun c => match c with
  | true => ma
  | false => mb
theorem x_ife {c a b : Expr} {mc : M Bool} {ma mb : M D} {pos : Pos} (hc : XT X ec W c mc) (ha : XE X ec W a ma) (hb : XE X ec W b mb) : XE X ec W (.IfExp c a b pos) (mIf mc ma mb) := imE (pe_ifExp hc ha hb) fun σ H Q h => by
  obtain ⟨φ, S, ρ, c⟩ := Cf.start h
  refine rd_imp (c.bind (rel1 := RelB) monoC_true) fun x H1 ⟨φ1, S1, k, ra, c1⟩ => ?_
  cases ra
  cases x with
  | true => exact iteT c1.rest
  | false => exact iteF c1.rest

/-! ### argument lists, displays -/
def mNil : M (List D) := mRet []
def mCons (ma : M D) (mr : M (List D)) : M (List D) := mB ma fun a => mB mr fun as => mRet (a :: as)
theorem xa_nil : XA X ec W [] mNil := imA pa_nil fun σ H Q h => rd_ret (fun _ _ _ => .nil) h
theorem xa_cons {e : Expr} {es : List Expr} {ma : M D} {mr : M (List D)} (ha : XE X ec W e ma) (hr : XA X ec W es mr) (hs : starEach (e :: es) X.env = (false, eval e X.env) :: starEach es X.env := by rfl) : XA X ec W (e :: es) (mCons ma mr) := imA (pa_cons ha hr hs) fun σ H Q h => by
  obtain ⟨φ, S, ρ, c⟩ := Cf.start h
  refine rd_imp (c.bind (rel1 := Rel X.K) monoC_true) fun x H1 ⟨φ1, S1, a, ra, c1⟩ => ?_
  refine rd_imp ((c1.carry ra).bind (rel1 := Rels X.K) monoC_rel) fun xs H2 ⟨φ2, S2, as, rs, c2⟩ => ?_
  exact c2.ret rfl (.cons c2.car rs)
def mTup (ms : M (List D)) : M D := mB ms fun ds => if ds.length ≤ 1000 then mRet (.tup ds) else fun _ _ => none
theorem x_tup {es : List Expr} {ms : M (List D)} {k} {pos : Pos} (h : XA X ec W es ms) : XE X ec W (.Tuple es k pos) (mTup ms) := imE (pe_tup h) fun σ H Q h => by
  obtain ⟨φ, S, ρ, c⟩ := Cf.start h
  refine rd_imp (c.bind (rel1 := Rels X.K) monoC_true) fun x H1 ⟨φ1, S1, ds, ra, c1⟩ => ?_
  obtain ⟨r', e, q⟩ := c1.run
  by_cases hl : ds.length ≤ 1000
  · simp only [if_pos hl] at e
    cases e
    refine ⟨by rw [ra.len]; exact szl (by omega), fun p hp => ?_⟩
    exact q φ1 _ _ (ext_imm hp) (c1.ok.imm hp) (.tup upd_same (ra.mono c1.ok (ext_imm hp)))
  · simp only [if_neg hl] at e
    cases e
/-- a new list -/
def mNew (ds : List D) : M D := fun _ S => some (.val (.ref S.length) (S ++ [.lst ds]))
theorem Cf.new {K : PySem.W.Frag} {C : (Nat → Addr) → Nat → Hp → Prop} {φ : Nat → Addr} {S : Sto} {ρ : Env} {σ : L2.St} {H : Hp} {Q : VK} {k : Sto → Option (R D)} {ds : List D} {xs : List V} (c : Cf K ec (Rel K) W C φ S ρ σ H Q k) (hk : k S = some (.val (.ref S.length) (S ++ [.lst ds])))
    (r : Rels K φ S.length H xs ds) {p : Addr} (hp : H p = none) : Q (.ref p) (upd H p (.lst xs)) := by
  have ex := ext_new (S := S) (φ := φ) (H := H) (ho := .lst xs) hp
  refine c.done hk (φ' := nxt φ S.length p) (by rw [List.length_append, List.length_singleton]; exact ex) (c.ok.new hp (.lst r)) ?_
  rw [List.length_append, List.length_singleton]
  have := @Rel.ref K (nxt φ S.length p) (S.length + 1) (upd H p (.lst xs)) S.length (Nat.lt_succ_self _)
  rw [nxt_new] at this
  exact this
def mLst (ms : M (List D)) : M D := mB ms fun ds => if ds.length ≤ 1000 then mNew ds else fun _ _ => none
theorem x_lst {es : List Expr} {ms : M (List D)} {pos : Pos} (h : XA X ec W es ms) : XE X ec W (.List es pos) (mLst ms) := imE (pe_lst h) fun σ H Q h => by
  obtain ⟨φ, S, ρ, c⟩ := Cf.start h
  refine rd_imp (c.bind (rel1 := Rels X.K) monoC_true) fun x H1 ⟨φ1, S1, ds, ra, c1⟩ => ?_
  by_cases hl : ds.length ≤ 1000
  · refine ⟨by rw [ra.len]; exact szl (by omega), fun p hp => c1.new ?_ ra hp⟩
    simp only [if_pos hl]
    rfl
  · obtain ⟨r', e, q⟩ := c1.run
    simp only [if_neg hl] at e
    cases e

/-! ### subscripts -/
/-- the items that a sequence has -/
def itemsOf (S : Sto) : D → Option (List D)
  | .tup xs => some xs
  | .kt xs => some xs
  | .fro xs => some xs
  | .ref i => match S[i]? with
    | some (.lst xs) => some xs
    | _ => none
  | _ => none
theorem items_rel {φ : Nat → Addr} {S : Sto} {H : Hp} {v : V} {d : D} {ds : List D} (ok : Ok X.K φ S H) (r : Rel X.K φ S.length H v d) (h : itemsOf S d = some ds) : ∃ p xs, v = .ref p ∧ (SqL X.K H p xs ∨ TuT X.K H p xs) ∧ Rels X.K φ S.length H xs ds := by
  cases r with
  | tup h1 r1 => cases h; exact ⟨_, _, rfl, .inr (.inl h1), r1⟩
  | kt h1 r1 => cases h; exact ⟨_, _, rfl, .inr (.inr h1), r1⟩
  | fro h1 r1 => cases h; exact ⟨_, _, rfl, .inl h1.sq, r1⟩
  | ref hi =>
    unfold itemsOf at h
    dsimp only at h
    split at h
    · rename_i xs hx
      cases h
      obtain ⟨us, h1, r1⟩ := ok.lst hx
      exact ⟨_, us, rfl, .inl (SqL.of h1), r1⟩
    · cases h
  | non => cases h
  | bl _ => cases h
  | int _ => cases h
  | str _ => cases h
  | ty _ => cases h
theorem atI_rels {K : PySem.W.Frag} {φ : Nat → Addr} {n : Nat} {H : Hp} {xs : List V} {ds : List D} {i : Int} {d : D} (r : Rels K φ n H xs ds) (h : atI ds i = some d) : ∃ v, atI xs i = some v ∧ Rel K φ n H v d := by
  unfold atI at h ⊢
  rw [r.len]
  cases e : ixN ds.length i with
  | none => rw [e] at h; cases h
  | some j =>
    rw [e] at h
    exact r.get j h
def gIx : G2 := fun a b S => match b with
  | .int i => match a with
    | .str z => if z.length ≤ 1000000 then (atI z.cps.toList i).map fun c => (.str ⟨#[c]⟩, S) else none
    | a => (itemsOf S a).bind fun xs => (atI xs i).map fun d => (d, S)
  | _ => none
theorem x_ix {a b : Expr} {ma mb : M D} {pos : Pos} (ha : XE X ec W a ma) (hb : XE X ec W b mb) (hs : PlainIx b := by exact fun _ _ => rfl) : XE X ec W (.Subscript a b pos) (mOp gIx ma mb) :=
  imE (pe_ix ix_seq ha hb hs) fun σ H Q h => rd_op (f := fun _ _ => getItem .none .none) (fun φ S H x y a b c S' ok ra rb e Q q => by
    have seq : ∀ {i : Int} {xs : List D} {d : D}, itemsOf S a = some xs → atI xs i = some d → y = .int i → (c, S') = (d, S) → rIx X.K x y H Q := fun {i xs d} h1 h2 h3 h4 => by
      cases h4
      obtain ⟨p, us, e1, h5, r5⟩ := items_rel ok ra h1
      obtain ⟨v, h6, r6⟩ := atI_rels r5 h2
      have qq := q φ H v (Ext.refl _ _ _) ok r6
      rcases h5 with h5 | h5
      · exact .inl ⟨p, us, i, v, e1, h3, h5, h6, qq⟩
      · exact .inr (.inl ⟨p, us, i, v, e1, h3, h5.sq, h6, qq⟩)
    cases rb with
    | int i =>
      unfold gIx at e
      dsimp only at e
      split at e
      · rename_i z
        split at e
        · rename_i hz
          cases h2 : atI z.cps.toList i with
          | none => rw [h2] at e; cases e
          | some cc =>
            rw [h2] at e
            cases e
            cases ra
            exact .inr (.inr ⟨z, i, cc, rfl, rfl, szl hz, h2, q φ H _ (Ext.refl _ _ _) ok (.str _)⟩)
        · cases e
      · cases h1 : itemsOf S a with
        | none => rw [h1] at e; cases e
        | some xs =>
          rw [h1] at e
          cases h2 : atI xs i with
          | none => simp only [Option.bind_some, h2] at e; cases e
          | some d =>
            simp only [Option.bind_some, h2] at e
            cases e
            exact seq h1 h2 rfl rfl
    | _ => cases e) h

/-! ### calls of built-ins -/
abbrev GN := List D → Sto → Option (D × Sto)
def CallS (X : Cx) (f : Value) (g : GN) : Prop := ∃ r : List V → Hp → VK → Prop, CallR X f r ∧ ∀ (φ : Nat → Addr) (S : Sto) (H : Hp) (xs : List V) (as : List D) (c : D) (S' : Sto), Ok X.K φ S H → Rels X.K φ S.length H xs as → g as S = some (c, S') →
  ∀ Q : VK, (∀ φ' H' v, Ext φ S.length H φ' S'.length H' → Ok X.K φ' S' H' → Rel X.K φ' S'.length H' v c → Q v H') → r xs H Q
def mBi (g : GN) (ms : M (List D)) : M D := mB ms fun as _ S => match g as S with
  | some (c, S') => some (.val c S')
  | none => none
theorem rd_bi {g : GN} {ms : M (List D)} {σ : L2.St} {H : Hp} {Q : VK} {r : List V → Hp → VK → Prop} (hr : ∀ (φ : Nat → Addr) (S : Sto) (H : Hp) (xs : List V) (as : List D) (c : D) (S' : Sto), Ok X.K φ S H → Rels X.K φ S.length H xs as → g as S = some (c, S') →
  ∀ Q : VK, (∀ φ' H' v, Ext φ S.length H φ' S'.length H' → Ok X.K φ' S' H' → Rel X.K φ' S'.length H' v c → Q v H') → r xs H Q) (h : rd X.K ec (Rel X.K) W (mBi g ms) σ H Q) : tCB r (rd X.K ec (Rels X.K) W ms) σ H Q := by
  obtain ⟨φ, S, ρ, c⟩ := Cf.start h
  refine rd_imp (c.bind (rel1 := Rels X.K) monoC_true) fun xs H1 ⟨φ1, S1, as, ra, c1⟩ => ?_
  obtain ⟨r', e, q⟩ := c1.run
  cases hg : g as S1 with
  | none => rw [hg] at e; cases e
  | some p =>
    obtain ⟨z, S'⟩ := p
    rw [hg] at e
    cases e
    exact hr φ1 S1 H1 xs as z S' c1.ok ra hg Q q
section
variable {x : Str} {p pos : Pos} {e : Expr} {es : List Expr} {id T : String} {g : GN} {ms : M (List D)}
theorem x_biB (hc : CallS X (.builtin id) g) (hm : X.mg x = none) (hv : bootBuiltins x = some (.builtin id)) (ha : XA X ec W (e :: es) ms) (hg : Gl X x := by rfl) (hn : x ≠ "__name__" := by decide) (hdb : (x == ("__debug__" : Str)) = false := by decide)
    (he : starEach (e :: es) X.env = (false, eval e X.env) :: starEach es X.env := by rfl) (hpl : (backTo pos (starEach es X.env)).any (·.1) = false := by rfl) : XE X ec W (.Call (.Name x p) (e :: es) [] pos) (mBi g ms) := by
  obtain ⟨r, hr, i⟩ := hc
  exact imE (pe_callB hr hg hm hv ha hn hdb he hpl) fun σ H Q h => rd_bi i h
theorem x_biT (hc : CallS X (.type T) g) (hm : X.mg x = none) (hv : bootBuiltins x = some (.type T)) (ha : XA X ec W (e :: es) ms) (hg : Gl X x := by rfl) (hn : x ≠ "__name__" := by decide) (hdb : (x == ("__debug__" : Str)) = false := by decide)
    (he : starEach (e :: es) X.env = (false, eval e X.env) :: starEach es X.env := by rfl) (hpl : (backTo pos (starEach es X.env)).any (·.1) = false := by rfl) : XE X ec W (.Call (.Name x p) (e :: es) [] pos) (mBi g ms) := by
  obtain ⟨r, hr, i⟩ := hc
  exact imE (pe_callTy hr hg hm hv ha hn hdb he hpl) fun σ H Q h => rd_bi i h
theorem x_biF (hc : CallS X (.builtin id) g) (hm : X.mg x = some (.builtin id)) (ha : XA X ec W (e :: es) ms) (hg : Gl X x := by rfl) (hdb : (x == ("__debug__" : Str)) = false := by decide)
    (he : starEach (e :: es) X.env = (false, eval e X.env) :: starEach es X.env := by rfl) (hpl : (backTo pos (starEach es X.env)).any (·.1) = false := by rfl) : XE X ec W (.Call (.Name x p) (e :: es) [] pos) (mBi g ms) := by
  obtain ⟨r, hr, i⟩ := hc
  exact imE (pe_callBfun hr hg hm ha hdb he hpl) fun σ H Q h => rd_bi i h
end
theorem CallS.or {f : Value} {g g' : GN} (h : CallS X f g) (h' : CallS X f g') : CallS X f (fun a S => match g a S with | some z => some z | none => g' a S) := by
  obtain ⟨r, hr, i⟩ := h
  obtain ⟨r', hr', i'⟩ := h'
  refine ⟨_, CallR.or hr hr', fun φ S H xs as c S' ok ra e Q q => ?_⟩
  dsimp only at e
  cases e1 : g as S with
  | some z =>
    rw [e1] at e
    cases e
    exact .inl (i φ S H xs as c S' ok ra e1 Q q)
  | none =>
    rw [e1] at e
    exact .inr (i' φ S H xs as c S' ok ra e Q q)
def gAbs : GN := fun as S => match as with
  | [.int i] => some (.int (if i < 0 then -i else i), S)
  | _ => none
theorem callS_abs : CallS X (.builtin "abs") gAbs := ⟨_, call_abs, fun φ S H xs as c S' ok ra e Q q => by
  unfold gAbs at e
  split at e
  · cases e
    cases ra with
    | cons r t => cases r; cases t; exact ⟨_, rfl, q φ H _ (Ext.refl _ _ _) ok (.int _)⟩
  · cases e⟩
def gGcd : GN := fun as S => match as with
  | [.int i, .int j] => some (.int ((Nat.gcd i.natAbs j.natAbs : Nat) : Int), S)
  | _ => none
theorem callS_gcd : CallS X (.builtin "math.gcd") gGcd := ⟨_, cr_gcd, fun φ S H xs as c S' ok ra e Q q => by
  unfold gGcd at e
  split at e
  · cases e
    cases ra with
    | cons r t =>
      cases r
      cases t with
      | cons r t => cases r; cases t; exact ⟨_, _, rfl, q φ H _ (Ext.refl _ _ _) ok (.int _)⟩
  · cases e⟩
def gInt : GN := fun as S => match as with
  | [.int i] => some (.int i, S)
  | [.bl k] => some (.int (if k then 1 else 0), S)
  | _ => none
theorem callS_int : CallS X (.type "int") gInt := ⟨_, call_int1, fun φ S H xs as c S' ok ra e Q q => by
  unfold gInt at e
  split at e
  · cases e
    cases ra with
    | cons r t => cases r; cases t; exact .inl ⟨_, rfl, q φ H _ (Ext.refl _ _ _) ok (.int _)⟩
  · cases e
    cases ra with
    | cons r t => cases r; cases t; exact .inr ⟨_, rfl, q φ H _ (Ext.refl _ _ _) ok (.int _)⟩
  · cases e⟩
def gLen : GN := fun as S => match as with
  | [a] => (itemsOf S a).map fun xs => (.int xs.length, S)
  | _ => none
theorem callS_len : CallS X (.builtin "len") gLen := ⟨_, call_len_seq, fun φ S H xs as c S' ok ra e Q q => by
  unfold gLen at e
  split at e
  · rename_i a
    cases h1 : itemsOf S a with
    | none => rw [h1] at e; cases e
    | some ds =>
      rw [h1] at e
      cases e
      cases ra with
      | cons r t =>
        cases t
        obtain ⟨p, us, e1, h5, r5⟩ := items_rel ok r h1
        subst e1
        refine ⟨p, us, rfl, (h5.imp id TuT.sq), q φ H _ (Ext.refl _ _ _) ok ?_⟩
        rw [r5.len]
        exact .int _
  · cases e⟩
/-- the type's name -/
def tyD (S : Sto) : D → Option String
  | .non => some "NoneType"
  | .bl _ => some "bool"
  | .int _ => some "int"
  | .str _ => some "str"
  | .tup _ => some "tuple"
  | .kt _ => some "tuple"
  | .fro _ => some "list"
  | .ref i => match S[i]? with
    | some (.lst _) => some "list"
    | some (.dct _) => some "dict"
    | some (.dcl _) => none
    | none => none
  | .ty _ => none
theorem ty_rel {φ : Nat → Addr} {S : Sto} {H : Hp} {v : V} {d : D} {n : String} (ok : Ok X.K φ S H) (r : Rel X.K φ S.length H v d) (h : tyD S d = some n) : TyX X.K H v (.type n) := by
  cases r with
  | non => cases h; exact .base .non
  | bl b => cases h; exact .base (.bl b)
  | int b => cases h; exact .base (.int b)
  | str b => cases h; exact .base (.str b)
  | ty b => cases h
  | tup h1 r1 =>
    cases h
    exact .base (.tup h1)
  | kt h1 r1 =>
    cases h
    obtain ⟨o, its, n, h1, h2, _⟩ := h1
    exact .kTuple h1 h2
  | fro h1 r1 =>
    cases h
    rcases h1.sq with (h1 | ⟨o, h1⟩) | ⟨o, its, n, h1, h2, _⟩
    · exact .base (.lst h1)
    · exact .base (.frz h1)
    · exact .kList h1 h2
  | @ref i hi =>
    unfold tyD at h
    dsimp only at h
    obtain ⟨ho, e, ro⟩ := ok.obj i _ (List.getElem?_eq_getElem hi)
    rw [List.getElem?_eq_getElem hi] at h
    generalize S[i] = o at h ro
    cases ro with
    | lst _ => cases h; exact .base (.lst e)
    | dct _ _ => cases h; exact .base (.dT e)
    | dcl _ _ => cases h
/-- isinstance(x, T) -/
def gIsi : GN := fun as S => match as with
  | [a, .ty T] => (tyD S a).bind fun n => (kitB n T).map fun b => (.bl b, S)
  | _ => none
theorem callS_isi : CallS X (.builtin "isinstance") gIsi := ⟨_, call_isi, fun φ S H xs as c S' ok ra e Q q => by
  unfold gIsi at e
  split at e
  · rename_i a T
    cases h1 : tyD S a with
    | none => rw [h1] at e; cases e
    | some n =>
      rw [h1] at e
      cases h2 : kitB n T with
      | none => simp only [Option.bind_some, h2] at e; cases e
      | some b =>
        simp only [Option.bind_some, h2] at e
        cases e
        cases ra with
        | cons r t =>
          cases t with
          | cons r2 t2 =>
            cases r2
            cases t2
            exact ⟨_, _, _, _, b, rfl, .ty T, ty_rel ok r h1, kit_ty h2, q φ H _ (Ext.refl _ _ _) ok (.bl b)⟩
  · cases e⟩
/-- tuple(x), list(x) of a list or a tuple -/
def isKt : D → Bool
  | .kt _ => true
  | _ => false
theorem items_rel' {φ : Nat → Addr} {S : Sto} {H : Hp} {v : V} {d : D} {ds : List D} (ok : Ok X.K φ S H) (r : Rel X.K φ S.length H v d) (h : itemsOf S d = some ds) (hk : isKt d = false) : ∃ p xs, v = .ref p ∧ (SqL X.K H p xs ∨ H p = some (.tup xs)) ∧ Rels X.K φ S.length H xs ds := by
  cases r with
  | tup h1 r1 => cases h; exact ⟨_, _, rfl, .inr h1, r1⟩
  | kt h1 r1 => cases hk
  | fro h1 r1 => cases h; exact ⟨_, _, rfl, .inl h1.sq, r1⟩
  | ref hi =>
    unfold itemsOf at h
    dsimp only at h
    split at h
    · rename_i xs hx
      cases h
      obtain ⟨us, h1, r1⟩ := ok.lst hx
      exact ⟨_, us, rfl, .inl (SqL.of h1), r1⟩
    · cases h
  | non => cases h
  | bl _ => cases h
  | int _ => cases h
  | str _ => cases h
  | ty _ => cases h
def gTupOf : GN := fun as S => match as with
  | [a] => if isKt a then none else (itemsOf S a).map fun xs => (.tup xs, S)
  | _ => none
theorem callS_tuple : CallS X (.type "tuple") gTupOf := ⟨_, call_tuple_of, fun φ S H xs as c S' ok ra e Q q => by
  unfold gTupOf at e
  split at e
  · rename_i a
    cases hk : isKt a with
    | true => rw [hk] at e; cases e
    | false =>
    rw [hk, if_neg (by decide)] at e
    cases h1 : itemsOf S a with
    | none => rw [h1] at e; cases e
    | some ds =>
      rw [h1] at e
      cases e
      cases ra with
      | cons r t =>
        cases t
        obtain ⟨p, us, e1, h5, r5⟩ := items_rel' ok r h1 hk
        subst e1
        refine ⟨p, us, rfl, ?_⟩
        rcases h5 with h5 | h5
        · exact .inl ⟨h5, fun l hl => q φ _ _ (ext_imm hl) (ok.imm hl) (.tup upd_same (r5.mono ok (ext_imm hl)))⟩
        · exact .inr ⟨.inl (.inl h5), q φ H _ (Ext.refl _ _ _) ok (.tup h5 r5)⟩
  · cases e⟩
def gLstOf : GN := fun as S => match as with
  | [a] => (itemsOf S a).map fun xs => (.ref S.length, S ++ [.lst xs])
  | _ => none
theorem rel_new {K : PySem.W.Frag} {φ : Nat → Addr} {S : Sto} {H : Hp} {p : Addr} {o : O} : Rel K (nxt φ S.length p) (S ++ [o]).length H (.ref p) (.ref S.length) := by
  rw [List.length_append, List.length_singleton]
  have := @Rel.ref K (nxt φ S.length p) (S.length + 1) H S.length (Nat.lt_succ_self _)
  rw [nxt_new] at this
  exact this
theorem ext_new' {φ : Nat → Addr} {S : Sto} {H : Hp} {p : Addr} {ho : HO} {o : O} (hp : H p = none) : Ext φ S.length H (nxt φ S.length p) (S ++ [o]).length (upd H p ho) := by
  rw [List.length_append, List.length_singleton]
  exact ext_new hp
theorem callS_list : CallS X (.type "list") gLstOf := ⟨_, call_list_of, fun φ S H xs as c S' ok ra e Q q => by
  unfold gLstOf at e
  split at e
  · rename_i a
    cases h1 : itemsOf S a with
    | none => rw [h1] at e; cases e
    | some ds =>
      rw [h1] at e
      cases e
      cases ra with
      | cons r t =>
        cases t
        obtain ⟨p, us, e1, h5, r5⟩ := items_rel ok r h1
        subst e1
        refine ⟨p, us, rfl, (h5.imp id TuT.sq), fun l hl => q _ _ _ (ext_new' hl) (ok.new hl (.lst r5)) rel_new⟩
  · cases e⟩

/-! ### calls of defs -/
/-- a def's promise: F of the values -/
def spF (K : PySem.W.Frag) (ec : Str → Value) (n : Nat) (F : List D → Sto → Option (R D)) : Sp := fun vs H Q E => ∃ (φ : Nat → Addr) (S : Sto) (ds : List D), Ok K φ S H ∧ Rels K φ S.length H vs ds ∧ vs.length = n ∧ ∃ r, F ds S = some r ∧ KV K ec (Rel K) (fun cls d _ H => E cls d H) φ S.length [] H Q r
def mCall (F : List D → Sto → Option (R D)) (ms : M (List D)) : M D := mB ms fun as _ S => F as S
theorem x_call {x : Str} {p pos : Pos} {e : Expr} {es : List Expr} {ms : M (List D)} {k n : Nat} {f : Addr} {fd : FuncData} {ps : List Str} {F : List D → Sto → Option (R D)} (tk : Takes X W)
    (G : FnOk X.prog X.w X.K X.mg X.base (L2.CX X.prog X.w) k f fd ps (spF X.K ec n F)) (hr : Room k X.A) (hm : X.mg x = some (.ref f)) (hk : PySem.W.keepIn X.K (.ref f) = true) (hb : Binds X.K fd ps [])
    (ha : XA X ec W (e :: es) ms) (hl : ps.length = n := by rfl) (hn : (e :: es).length = n := by rfl) (hg : Gl X x := by rfl) (hdb : (x == ("__debug__" : Str)) = false := by decide) (he : starEach (e :: es) X.env = (false, eval e X.env) :: starEach es X.env := by rfl) (hpl : (backTo pos (starEach es X.env)).any (·.1) = false := by rfl)
    (hms : ∀ ρ S ds S', ms ρ S = some (.val ds S') → ds.length = n) : XE X ec W (.Call (.Name x p) (e :: es) [] pos) (mCall F ms) := by
  refine imE (pe_callSD (E := fun σ cls d H => W cls d σ H) (dvs := []) G hr hg hm hk hb .nil (fun σ => passAt tk σ) ha hdb he hpl) fun σ H Q h => ?_
  obtain ⟨φ, S, ρ, c⟩ := Cf.start h
  obtain ⟨r0, e0, q0⟩ := c.run
  unfold mCall mB at e0
  refine ⟨φ, S, ρ, c.ok, c.env, ?_⟩
  cases h1 : ms ρ S with
  | none => rw [h1] at e0; cases e0
  | some z =>
    rw [h1] at e0
    refine ⟨z, rfl, ?_⟩
    cases z with
    | exc c' S1 => cases e0; exact q0
    | val as S1 =>
      have e0 : F as S1 = some r0 := e0
      intro φ' H' b ex ok rb
      refine ⟨φ', S1, as, ok, by rw [List.append_nil]; exact rb, by rw [List.append_nil, rb.len]; exact hms ρ S as S1 h1, r0, e0, ?_⟩
      cases r0 with
      | val a S2 => exact fun φ2 H2 b2 ex2 => q0 φ2 H2 b2 (ex.trans ex2)
      | exc c2 S2 => exact fun φ2 H2 ex2 => q0 φ2 H2 (ex.trans ex2)
theorem mNil_len {ρ : Env} {S S' : Sto} {ds : List D} (h : mNil ρ S = some (.val ds S')) : ds.length = 0 := by cases h; rfl
theorem mCons_len {n : Nat} {ma : M D} {mr : M (List D)} (hr : ∀ ρ S ds S', mr ρ S = some (.val ds S') → ds.length = n) : ∀ ρ S ds S', mCons ma mr ρ S = some (.val ds S') → ds.length = n + 1 := fun ρ S ds S' h => by
  unfold mCons mB at h
  split at h
  · cases h
  · cases h
  · dsimp only at h
    split at h
    · cases h
    · cases h
    · rename_i e1
      cases h
      rw [List.length_cons, hr _ _ _ _ e1]
end Rf
namespace Rf
open PySem PySem.Spec PyProof.Rows L2

variable {X : Cx} {ec : Str → Value} {W : WX}
/-! ### statements -/
inductive RS where
  | nx (ρ : Env) (S : Sto) | ret (d : D) (S : Sto) | brk (ρ : Env) (S : Sto) | cnt (ρ : Env) (S : Sto) | exc (c : Str) (ρ : Env) (S : Sto)
abbrev MS := Env → Sto → Option RS
section
variable (K : PySem.W.Frag) (ec : Str → Value)
def KS (W : WX) (φ : Nat → Addr) (n : Nat) (H : Hp) (D : Ends) : RS → Prop
  | .nx ρ S' => ∀ φ' H' σ', Ext φ n H φ' S'.length H' → Ok K φ' S' H' → RelE K φ' S'.length H' ρ σ' → D.nx σ' H'
  | .brk ρ S' => ∀ φ' H' σ', Ext φ n H φ' S'.length H' → Ok K φ' S' H' → RelE K φ' S'.length H' ρ σ' → D.bk σ' H'
  | .cnt ρ S' => ∀ φ' H' σ', Ext φ n H φ' S'.length H' → Ok K φ' S' H' → RelE K φ' S'.length H' ρ σ' → D.ct σ' H'
  | .ret d S' => ∀ φ' H' v, Ext φ n H φ' S'.length H' → Ok K φ' S' H' → Rel K φ' S'.length H' v d → D.rt v H'
  | .exc c ρ S' => ∀ φ' H' σ', Ext φ n H φ' S'.length H' → Ok K φ' S' H' → RelE K φ' S'.length H' ρ σ' → W (ec c) none σ' H'
def rdS (W : WX) (m : MS) : TS := fun D σ H => ∃ (φ : Nat → Addr) (S : Sto) (ρ : Env), Ok K φ S H ∧ RelE K φ S.length H ρ σ ∧ ∃ r, m ρ S = some r ∧ KS K ec W φ S.length H D r
end
section
variable {K : PySem.W.Frag}
theorem KS.ext {φ φ1 : Nat → Addr} {n n1 : Nat} {H H1 : Hp} {D : Ends} {r : RS} (e : Ext φ n H φ1 n1 H1) (h : KS K ec W φ n H D r) : KS K ec W φ1 n1 H1 D r := by
  cases r with
  | nx ρ S' => exact fun φ' H' σ' e' => h φ' H' σ' (e.trans e')
  | brk ρ S' => exact fun φ' H' σ' e' => h φ' H' σ' (e.trans e')
  | cnt ρ S' => exact fun φ' H' σ' e' => h φ' H' σ' (e.trans e')
  | ret d S' => exact fun φ' H' v e' => h φ' H' v (e.trans e')
  | exc c ρ S' => exact fun φ' H' σ' e' => h φ' H' σ' (e.trans e')
structure Cs (K : PySem.W.Frag) (ec : Str → Value) (W : WX) (C : (Nat → Addr) → Nat → Hp → Prop) (φ : Nat → Addr) (S : Sto) (ρ : Env) (σ : L2.St) (H : Hp) (D : Ends) (k : Sto → Option RS) : Prop where
  ok : Ok K φ S H
  env : RelE K φ S.length H ρ σ
  car : C φ S.length H
  run : ∃ r, k S = some r ∧ KS K ec W φ S.length H D r
def sB {α : Type} (m : M α) (k : α → MS) : MS := fun ρ S => match m ρ S with
  | none => none
  | some (.exc c S1) => some (.exc c ρ S1)
  | some (.val a S1) => k a ρ S1
variable {C : (Nat → Addr) → Nat → Hp → Prop} {φ : Nat → Addr} {S : Sto} {ρ : Env} {σ : L2.St} {H : Hp} {D : Ends}
theorem Cs.start {m : MS} (h : rdS K ec W m D σ H) : ∃ (φ : Nat → Addr) (S : Sto) (ρ : Env), Cs K ec W (fun _ _ _ => True) φ S ρ σ H D (m ρ) := by
  obtain ⟨φ, S, ρ, ok, env, r, e, q⟩ := h
  exact ⟨φ, S, ρ, ok, env, trivial, r, e, q⟩
theorem Cs.bind {γ δ : Type} {rel1 : RelT δ γ} (hC : MonoC K C) {m : M γ} {k : γ → MS} (c : Cs K ec W C φ S ρ σ H D (sB m k ρ)) :
    rd K ec rel1 W m σ H fun x H1 => ∃ (φ1 : Nat → Addr) (S1 : Sto) (a : γ), rel1 φ1 S1.length H1 x a ∧ Ext φ S.length H φ1 S1.length H1 ∧ Cs K ec W C φ1 S1 ρ σ H1 D (k a ρ) := by
  obtain ⟨r, e, q⟩ := c.run
  unfold sB at e
  split at e
  · cases e
  · rename_i c1 S1 e1
    cases e
    exact ⟨φ, S, ρ, c.ok, c.env, _, e1, fun φ' H' ex ok => q φ' H' σ ex ok (c.env.mono c.ok ex)⟩
  · rename_i a S1 e1
    exact ⟨φ, S, ρ, c.ok, c.env, _, e1, fun φ' H' b ex ok r1 => ⟨φ', S1, a, r1, ex, ok, c.env.mono c.ok ex, hC _ _ _ _ _ _ c.ok ex c.car, r, e, q.ext ex⟩⟩
theorem Cs.carry {C' : (Nat → Addr) → Nat → Hp → Prop} {k : Sto → Option RS} (c : Cs K ec W C φ S ρ σ H D k) (h : C' φ S.length H) : Cs K ec W C' φ S ρ σ H D k := ⟨c.ok, c.env, h, c.run⟩
theorem Cs.rest {m : MS} (c : Cs K ec W C φ S ρ σ H D (m ρ)) : rdS K ec W m D σ H :=
  let ⟨r, e, q⟩ := c.run
  ⟨φ, S, ρ, c.ok, c.env, r, e, q⟩
end
def XS (X : Cx) (ec : Str → Value) (W : WX) (st : Stmt) (m : MS) : Prop := PS X st (rdS X.K ec W m)
def XSs (X : Cx) (ec : Str → Value) (W : WX) (st : List Stmt) (m : MS) : Prop := PSs X st (rdS X.K ec W m)
theorem imS {st : Stmt} {t t' : TS} (h : PS X st t) (i : ∀ D σ H, t' D σ H → t D σ H) : PS X st t' := ⟨fun pins s σ H D I q => h.run pins s σ H D I (i D σ H q)⟩
theorem imSs {st : List Stmt} {t t' : TS} (h : PSs X st t) (i : ∀ D σ H, t' D σ H → t D σ H) : PSs X st t' := ⟨fun pins s σ H D I q => h.run pins s σ H D I (i D σ H q)⟩

def sNil : MS := fun ρ S => some (.nx ρ S)
def sSeq (a b : MS) : MS := fun ρ S => match a ρ S with
  | some (.nx ρ' S') => b ρ' S'
  | r => r
theorem xs_nil : XSs X ec W [] sNil := imSs pss_nil fun D σ H h => by
  obtain ⟨φ, S, ρ, ok, env, r, e, q⟩ := h
  cases e
  exact q φ H σ (Ext.refl _ _ _) ok env
theorem xs_one {st : Stmt} {m : MS} (h : XS X ec W st m) : XSs X ec W [st] m := pss_one h
theorem xs_cons {st : Stmt} {rest : List Stmt} {a b : MS} (h1 : XS X ec W st a) (h2 : XSs X ec W rest b) : XSs X ec W (st :: rest) (sSeq a b) := imSs (pss_cons h1 h2) fun D σ H h => by
  obtain ⟨φ, S, ρ, ok, env, r, e, q⟩ := h
  unfold sSeq at e
  split at e
  · rename_i ρ' S' e1
    exact ⟨φ, S, ρ, ok, env, _, e1, fun φ' H' σ' ex ok' env' => ⟨φ', S', ρ', ok', env', r, e, q.ext ex⟩⟩
  · rename_i r1 hne
    refine ⟨φ, S, ρ, ok, env, r, e, ?_⟩
    cases r with
    | nx ρ' S' => exact absurd e (hne ρ' S')
    | _ => exact q
def sPass : MS := sNil
theorem x_pass {pos : Pos} : XS X ec W (.Pass pos) sNil := imS ps_pass fun D σ H h => by
  obtain ⟨φ, S, ρ, ok, env, r, e, q⟩ := h
  cases e
  exact q φ H σ (Ext.refl _ _ _) ok env
def sBrk : MS := fun ρ S => some (.brk ρ S)
theorem x_break {pos : Pos} : XS X ec W (.Break pos) sBrk := imS ps_break fun D σ H h => by
  obtain ⟨φ, S, ρ, ok, env, r, e, q⟩ := h
  cases e
  exact q φ H σ (Ext.refl _ _ _) ok env
def sCnt : MS := fun ρ S => some (.cnt ρ S)
theorem x_cont {pos : Pos} : XS X ec W (.Continue pos) sCnt := imS ps_continue fun D σ H h => by
  obtain ⟨φ, S, ρ, ok, env, r, e, q⟩ := h
  cases e
  exact q φ H σ (Ext.refl _ _ _) ok env
def sEx (m : M D) : MS := sB m fun _ ρ S => some (.nx ρ S)
theorem x_ex {e : Expr} {m : M D} {pos : Pos} (h : XE X ec W e m) (hs : swapsWith e none pos.line X.env = pure false := by rfl) : XS X ec W (.Expr e pos) (sEx m) := imS (ps_expr h hs) fun D σ H h => by
  obtain ⟨φ, S, ρ, c⟩ := Cs.start h
  refine rd_imp (c.bind (rel1 := Rel X.K) monoC_true) fun x H1 ⟨φ1, S1, a, ra, ex, c1⟩ => ?_
  obtain ⟨r, e, q⟩ := c1.run
  cases e
  exact q φ1 H1 σ (Ext.refl _ _ _) c1.ok c1.env
def sRet (m : M D) : MS := sB m fun d _ S => some (.ret d S)
theorem x_ret {e : Expr} {m : M D} {pos : Pos} (h : XE X ec W e m) : XS X ec W (.Return (some e) pos) (sRet m) := imS (ps_ret h) fun D σ H h => by
  obtain ⟨φ, S, ρ, c⟩ := Cs.start h
  refine rd_imp (c.bind (rel1 := Rel X.K) monoC_true) fun x H1 ⟨φ1, S1, a, ra, ex, c1⟩ => ?_
  obtain ⟨r, e, q⟩ := c1.run
  cases e
  exact q φ1 H1 x (Ext.refl _ _ _) c1.ok ra
def sRetN : MS := fun _ S => some (.ret .non S)
theorem x_retN {pos : Pos} : XS X ec W (.Return none pos) sRetN := imS ps_retN fun D σ H h => by
  obtain ⟨φ, S, ρ, ok, env, r, e, q⟩ := h
  cases e
  exact q φ H .non (Ext.refl _ _ _) ok .non
def sIf (c : M Bool) (a b : MS) : MS := sB c fun k => match k with
  | true => a
  | false => b
theorem x_if {c : Expr} {a b : List Stmt} {mc : M Bool} {ma mb : MS} {pos : Pos} (hc : XT X ec W c mc) (ha : XSs X ec W a ma) (hb : XSs X ec W b mb) : XS X ec W (.If c a b pos) (sIf mc ma mb) := imS (ps_if hc ha hb) fun D σ H h => by
  obtain ⟨φ, S, ρ, c⟩ := Cs.start h
  refine rd_imp (c.bind (rel1 := RelB) monoC_true) fun x H1 ⟨φ1, S1, a, ra, ex, c1⟩ => ?_
  cases ra
  cases x with
  | true => exact iteT c1.rest
  | false => exact iteF c1.rest
def sSet (i : Nat) (m : M D) : MS := sB m fun d ρ S => some (.nx (ρ.set i (some d)) S)
theorem x_set {x : Str} {e : Expr} {m : M D} {pos pos' : Pos} (i : Nat) (hN : X.N.Nodup) (h : XE X ec W e m) (hi : X.N[i]? = some x := by rfl) (hx : Loc X.env.scope x := by first | exact Or.inl rfl | exact Or.inr rfl) (hs : swapsWith e (some (.Name x pos')) pos.line X.env = pure false := by rfl) (hf : X.fn x = true ∨ X.env.scope.names.lookup x = some .local := by first | exact .inl rfl | exact .inr rfl | assumption) :
    XS X ec W (.Assign [.Name x pos'] e pos) (sSet i m) := imS (ps_set hN hi hx h hs hf) fun D σ H h => by
  obtain ⟨φ, S, ρ, c⟩ := Cs.start h
  refine rd_imp (c.bind (rel1 := Rel X.K) monoC_true) fun x H1 ⟨φ1, S1, a, ra, ex, c1⟩ => ?_
  obtain ⟨r, e, q⟩ := c1.run
  cases e
  exact q φ1 H1 _ (Ext.refl _ _ _) c1.ok (c1.env.set i ra)

/-! ### targets -/
abbrev Tgt := D → Env → Sto → Option Env
abbrev Tgts := List D → Env → Sto → Option Env
def TgS (K : PySem.W.Frag) (g : TG) (t : Tgt) (vs : List Nat) : Prop := ∀ (φ : Nat → Addr) (S : Sto) (H : Hp) (σ : L2.St) (ρ : Env) (v : V) (d : D) (ρ' : Env), Ok K φ S H → RelE K φ S.length H ρ σ → Rel K φ S.length H v d → t d ρ S = some ρ' →
  ∀ Q : L2.St → Hp → Prop, (∀ σ', RelE K φ S.length H ρ' σ' → wipe σ' vs = wipe σ vs → Q σ' H) → g v σ H Q
def TgsS (K : PySem.W.Frag) (g : TGs) (t : Tgts) (vs : List Nat) : Prop := ∀ (φ : Nat → Addr) (S : Sto) (H : Hp) (σ : L2.St) (ρ : Env) (v : List V) (d : List D) (ρ' : Env), Ok K φ S H → RelE K φ S.length H ρ σ → Rels K φ S.length H v d → t d ρ S = some ρ' →
  ∀ Q : L2.St → Hp → Prop, (∀ σ', RelE K φ S.length H ρ' σ' → wipe σ' vs = wipe σ vs → Q σ' H) → g v σ H Q
theorem wipe_set {v : Option V} : ∀ {σ : L2.St} {vs : List Nat} {i : Nat}, i ∈ vs → wipe (σ.set i v) vs = wipe σ vs
  | σ, w :: vs, i, h => by
    unfold wipe
    by_cases c : i ∈ vs
    · rw [wipe_set c]
    · have e : i = w := by
        rcases List.mem_cons.mp h with h | h
        · exact h
        · exact absurd h c
      subst e
      have z : ∀ (vs : List Nat) (σ : L2.St), i ∉ vs → wipe (σ.set i v) vs = (wipe σ vs).set i v := by
        intro vs
        induction vs with
        | nil => intro σ _; rfl
        | cons a l ih =>
          intro σ hn
          unfold wipe
          rw [ih σ fun q => hn (List.mem_cons_of_mem _ q)]
          exact List.set_comm _ _ (fun q => hn (by rw [q]; exact List.mem_cons_self))
      rw [z vs σ c, List.set_set]
def tN (i : Nat) : Tgt := fun d ρ _ => some (ρ.set i (some d))
theorem tgs_name {K : PySem.W.Frag} {i : Nat} {vs : List Nat} (h : i ∈ vs := by decide) : TgS K (gName i) (tN i) vs := fun φ S H σ ρ v d ρ' ok env r e Q q => by
  cases e
  exact q _ (env.set i r) (wipe_set h)
def tNil' : Tgts := fun ds ρ _ => match ds with
  | [] => some ρ
  | _ => none
def tCons' (t : Tgt) (ts : Tgts) : Tgts := fun ds ρ S => match ds with
  | d :: ds => (t d ρ S).bind fun ρ1 => ts ds ρ1 S
  | [] => none
theorem tgs_nil {K : PySem.W.Frag} {vs : List Nat} : TgsS K gNil tNil' vs := fun φ S H σ ρ v d ρ' ok env r e Q q => by
  cases r with
  | nil => cases e; exact ⟨rfl, q σ env rfl⟩
  | cons _ _ => cases e
theorem tgs_cons {K : PySem.W.Frag} {vs : List Nat} {g : TG} {gs : TGs} {t : Tgt} {ts : Tgts} (h : TgS K g t vs) (h' : TgsS K gs ts vs) : TgsS K (gCons g gs) (tCons' t ts) vs := fun φ S H σ ρ v d ρ' ok env r e Q q => by
  cases r with
  | nil => cases e
  | cons r rs =>
    rename_i v vs' d ds
    unfold tCons' at e
    dsimp only at e
    cases e1 : t d ρ S with
    | none => rw [e1] at e; cases e
    | some ρ1 =>
      rw [e1] at e
      refine ⟨_, _, rfl, h φ S H σ ρ v d ρ1 ok env r e1 _ fun σ1 env1 w1 => h' φ S H σ1 ρ1 _ ds ρ' ok env1 rs e _ fun σ2 env2 w2 => q σ2 env2 (w2.trans w1)⟩
def tTp (n : Nat) (ts : Tgts) : Tgt := fun d ρ S => match d with
  | .tup ds => if ds.length = n then ts ds ρ S else none
  | .kt ds => if ds.length = n then ts ds ρ S else none
  | _ => none
theorem tgs_tup {K : PySem.W.Frag} {vs : List Nat} {gs : TGs} {ts : Tgts} {n : Nat} (h : TgsS K gs ts vs) : TgS K (gTup K n gs) (tTp n ts) vs := fun φ S H σ ρ v d ρ' ok env r e Q q => by
  cases r with
  | tup h1 r1 =>
    rename_i a xs ds
    unfold tTp at e
    dsimp only at e
    split at e
    · rename_i hl
      exact ⟨a, xs, rfl, .inl (.inl h1), by rw [r1.len]; exact hl, h φ S H σ ρ xs ds ρ' ok env r1 e Q q⟩
    · cases e
  | kt h1 r1 =>
    rename_i a xs ds
    unfold tTp at e
    dsimp only at e
    split at e
    · rename_i hl
      exact ⟨a, xs, rfl, .inr h1, by rw [r1.len]; exact hl, h φ S H σ ρ xs ds ρ' ok env r1 e Q q⟩
    · cases e
  | _ => cases e
def sAsg (t : Tgt) (m : M D) : MS := sB m fun d ρ S => (t d ρ S).map fun ρ' => .nx ρ' S
theorem x_asg {tg e : Expr} {m : M D} {pos : Pos} {g : TG} {t : Tgt} {vs : List Nat} (h : XE X ec W e m) (hg : PG X tg g) (ht : TgS X.K g t vs) (hs : swapsWithSole [tg] e pos.line X.env = pure false := by rfl) (hw : swappedStores [tg] e X.env = pure none := by rfl)
    (h1 : (assignEach [tg] X.env).map (·.2) = [assign tg X.env] := by rfl) : XS X ec W (.Assign [tg] e pos) (sAsg t m) := imS (ps_asg h hg hs hw h1) fun D σ H h => by
  obtain ⟨φ, S, ρ, c⟩ := Cs.start h
  refine rd_imp (c.bind (rel1 := Rel X.K) monoC_true) fun x H1 ⟨φ1, S1, a, ra, ex, c1⟩ => ?_
  obtain ⟨r, e, q⟩ := c1.run
  cases e1 : t a ρ S1 with
  | none => rw [e1] at e; cases e
  | some ρ' =>
    rw [e1] at e
    cases e
    exact ht φ1 S1 H1 σ ρ x a ρ' c1.ok c1.env ra e1 _ fun σ' env' _ => q φ1 H1 σ' (Ext.refl _ _ _) c1.ok env'
/-- a, b = x, y -/
def sPar (i j : Nat) (ms : M (List D)) : MS := sB ms fun ds ρ S => match ds with
  | [a, b] => some (.nx ((ρ.set i (some a)).set j (some b)) S)
  | _ => none
theorem x_par {i j : Nat} {x y : Str} {a b : Expr} {ms : M (List D)} {px py pt : Pos} {kt k2 pt2} {pos : Pos} (hc : X.calm = true) (hN : X.N.Nodup) (ha : XA X ec W [a, b] ms) (hi : X.N[i]? = some x := by rfl) (hj : X.N[j]? = some y := by rfl) (hij : i ≠ j := by decide)
    (hx : X.env.scope.names.lookup x = some .local := by rfl) (hy : X.env.scope.names.lookup y = some .local := by rfl)
    (hw : swappedStores [.Tuple [.Name x px, .Name y py] kt pt] (.Tuple [a, b] k2 pt2) X.env = pure (some [x, y]) := by rfl) : XS X ec W (.Assign [.Tuple [.Name x px, .Name y py] kt pt] (.Tuple [a, b] k2 pt2) pos) (sPar i j ms) :=
  imS (ps_par hc hN hi hj hij hx hy ha hw) fun D σ H h => by
  obtain ⟨φ, S, ρ, c⟩ := Cs.start h
  refine rd_imp (c.bind (rel1 := Rels X.K) monoC_true) fun xs H1 ⟨φ1, S1, as, ra, ex, c1⟩ => ?_
  obtain ⟨r, e, q⟩ := c1.run
  cases ra with
  | nil => cases e
  | cons r1 t1 =>
    cases t1 with
    | nil => cases e
    | cons r2 t2 =>
      cases t2 with
      | nil => cases e; exact ⟨_, _, rfl, q φ1 H1 _ (Ext.refl _ _ _) c1.ok ((c1.env.set i r1).set j r2)⟩
      | cons _ _ => cases e

/-! ### while -/
def loopW (c : M Bool) (b : MS) : Nat → MS
  | 0 => fun _ _ => none
  | n + 1 => fun ρ S => match c ρ S with
    | none => none
    | some (.exc x S1) => some (.exc x ρ S1)
    | some (.val false S1) => some (.nx ρ S1)
    | some (.val true S1) => match b ρ S1 with
      | some (.nx ρ' S') => loopW c b n ρ' S'
      | some (.cnt ρ' S') => loopW c b n ρ' S'
      | some (.brk ρ' S') => some (.nx ρ' S')
      | r => r
@[irreducible] def fuel : Nat := 2 ^ 3000000
theorem lt_fuel {n k : Nat} (h : n < 2 ^ k) (hk : k ≤ 3000000) : n < fuel := by
  unfold fuel
  exact Nat.lt_of_lt_of_le h (Nat.pow_le_pow_right (by decide) hk)
def sWhile (c : M Bool) (b : MS) : MS := loopW c b fuel
theorem x_while {c : Expr} {body : List Stmt} {mc : M Bool} {mb : MS} {pos : Pos} (hp : PassesOwn (model X.prog X.w) X.A X.env X.xe) (hc : XT X ec W c mc) (hb : XSs X ec W body mb) : XS X ec W (.While c body [] pos) (sWhile mc mb) := imS (ps_while hp hc hb) fun D σ H h => by
  obtain ⟨φ, S, ρ, ok, env, r, e, q⟩ := h
  refine ⟨fun m σ H => ∃ φ S ρ r, Ok X.K φ S H ∧ RelE X.K φ S.length H ρ σ ∧ loopW mc mb m ρ S = some r ∧ KS X.K ec W φ S.length H D r, ⟨fuel, φ, S, ρ, r, ok, env, e, q⟩, fun m σ H h => ?_⟩
  obtain ⟨φ, S, ρ, r, ok, env, e, q⟩ := h
  cases m with
  | zero => cases e
  | succ m =>
    unfold loopW at e
    split at e
    · cases e
    · rename_i x S1 e1
      cases e
      exact ⟨φ, S, ρ, ok, env, _, e1, fun φ' H' ex ok' => q φ' H' σ ex ok' (env.mono ok ex)⟩
    · rename_i S1 e1
      cases e
      refine ⟨φ, S, ρ, ok, env, _, e1, fun φ' H' b ex ok' rb => ?_⟩
      cases rb
      exact iteF (q φ' H' σ ex ok' (env.mono ok ex))
    · rename_i S1 e1
      refine ⟨φ, S, ρ, ok, env, _, e1, fun φ' H' b ex ok' rb => ?_⟩
      cases rb
      refine iteT ⟨fun σ H => ∃ φ S ρ r, Ok X.K φ S H ∧ RelE X.K φ S.length H ρ σ ∧ loopW mc mb m ρ S = some r ∧ KS X.K ec W φ S.length H D r, fun σ' H' h => ⟨m, Nat.lt_succ_self _, h⟩, φ', S1, ρ, ok', env.mono ok ex, ?_⟩
      split at e
      · rename_i ρ' S' e2
        exact ⟨_, e2, fun φ2 H2 σ2 ex2 ok2 env2 => ⟨φ2, S', ρ', r, ok2, env2, e, q.ext (ex.trans ex2)⟩⟩
      · rename_i ρ' S' e2
        exact ⟨_, e2, fun φ2 H2 σ2 ex2 ok2 env2 => ⟨φ2, S', ρ', r, ok2, env2, e, q.ext (ex.trans ex2)⟩⟩
      · rename_i ρ' S' e2
        cases e
        exact ⟨_, e2, fun φ2 H2 σ2 ex2 ok2 env2 => q φ2 H2 σ2 (ex.trans ex2) ok2 env2⟩
      · rename_i h1 h2 h3
        refine ⟨r, e, ?_⟩
        cases r with
        | nx ρ' S' => exact absurd e (h1 ρ' S')
        | cnt ρ' S' => exact absurd e (h2 ρ' S')
        | brk ρ' S' => exact absurd e (h3 ρ' S')
        | ret d S' => exact KS.ext ex q
        | exc c ρ' S' => exact KS.ext ex q

/-! ### what is walked -/
abbrev Sq := Nat → Sto → Option (Option D)
def SeqR (K : PySem.W.Frag) : RelT It Sq := fun φ n H J sq => ∀ φ' S' H', Ok K φ' S' H' → Ext φ n H φ' S'.length H' → ∀ i,
  (∀ d, sq i S' = some (some d) → J.go i H' ∧ ∀ x H'', J.yld i H' x H'' → Ext φ' S'.length H' φ' S'.length H'' ∧ Ok K φ' S' H'' ∧ Rel K φ' S'.length H'' x d) ∧ (sq i S' = some none → J.stop i H')
instance {K : PySem.W.Frag} : Mono K (SeqR K) := ⟨fun k e r φ' S' H' ok ex => r φ' S' H' ok (e.trans ex)⟩
def XI (X : Cx) (ec : Str → Value) (W : WX) (tg iter : Expr) (m : M Sq) : Prop := PI X tg iter (rd X.K ec (SeqR X.K) W m)
theorem imI {tg iter : Expr} {t t' : TI} (h : PI X tg iter t) (i : ∀ σ H Q, t' σ H Q → t σ H Q) : PI X tg iter t' := ⟨fun pins s σ H Q I q => h.run pins s σ H Q I (i σ H Q q)⟩
theorem orI {tg iter : Expr} {t t' : TI} (h : PI X tg iter t) (h' : PI X tg iter t') : PI X tg iter (fun σ H Q => t σ H Q ∨ t' σ H Q) := ⟨fun pins s σ H Q I q => q.elim (h.run pins s σ H Q I) (h'.run pins s σ H Q I)⟩
def sqIt (xs : List D) : Sq := fun i _ => some xs[i]?
def sqRef (id : Nat) : Sq := fun i S => match S[id]? with
  | some (.lst xs) => some xs[i]?
  | _ => none
def sqOf (S : Sto) : D → Option Sq
  | .tup xs => some (sqIt xs)
  | .kt xs => some (sqIt xs)
  | .fro xs => some (sqIt xs)
  | .ref i => match S[i]? with
    | some (.lst _) => some (sqRef i)
    | _ => none
  | _ => none
def mSeq (m : M D) : M Sq := mB m fun d _ S => match sqOf S d with
  | some q => some (.val q S)
  | none => none
end Rf
namespace Rf
open PySem PySem.Spec PyProof.Rows L2

variable {X : Cx} {ec : Str → Value} {W : WX}
theorem seqR_tup {K : PySem.W.Frag} {φ : Nat → Addr} {S : Sto} {H : Hp} {a : Addr} {xs : List V} {ds : List D} (k : Ok K φ S H) (h : TuT K H a xs) (r : Rels K φ S.length H xs ds) : SeqR K φ S.length H (Itt K a) (sqIt ds) := fun φ' S' H' ok ex i => by
  have h' := (k.rdT ex h).sq
  have r' := r.mono k ex
  refine ⟨fun d e => ?_, fun e => ?_⟩
  · have e : ds[i]? = some d := by unfold sqIt at e; exact Option.some.inj e
    obtain ⟨v, hv, rv⟩ := r'.get i e
    refine ⟨⟨xs, v, h', hv⟩, fun x H'' y => ?_⟩
    obtain ⟨eH, y⟩ := y
    subst eH
    have := y xs h'
    rw [hv] at this
    cases this
    exact ⟨Ext.refl _ _ _, ok, rv⟩
  · have e : ds[i]? = none := by unfold sqIt at e; exact Option.some.inj e
    exact ⟨xs, h', by rw [r'.len]; exact List.getElem?_eq_none_iff.mp e⟩
theorem seqR_fro {K : PySem.W.Frag} {φ : Nat → Addr} {S : Sto} {H : Hp} {a : Addr} {xs : List V} {ds : List D} (k : Ok K φ S H) (h : Fro K φ S.length H a xs) (r : Rels K φ S.length H xs ds) : SeqR K φ S.length H (Itl K a) (sqIt ds) := fun φ' S' H' ok ex i => by
  have h' := (k.rdF ex h).sq
  have r' := r.mono k ex
  refine ⟨fun d e => ?_, fun e => ?_⟩
  · have e : ds[i]? = some d := by unfold sqIt at e; exact Option.some.inj e
    obtain ⟨v, hv, rv⟩ := r'.get i e
    refine ⟨⟨xs, v, h', hv⟩, fun x H'' y => ?_⟩
    obtain ⟨eH, y⟩ := y
    subst eH
    have := y xs h'
    rw [hv] at this
    cases this
    exact ⟨Ext.refl _ _ _, ok, rv⟩
  · have e : ds[i]? = none := by unfold sqIt at e; exact Option.some.inj e
    exact ⟨xs, h', by rw [r'.len]; exact List.getElem?_eq_none_iff.mp e⟩
theorem seqR_ref {K : PySem.W.Frag} {φ : Nat → Addr} {S : Sto} {H : Hp} {j : Nat} (k : Ok K φ S H) (hj : j < S.length) : SeqR K φ S.length H (Itl K (φ j)) (sqRef j) := fun φ' S' H' ok ex i => by
  have ea : φ' j = φ j := ex.same j hj
  refine ⟨fun d e => ?_, fun e => ?_⟩
  · unfold sqRef at e
    split at e
    · rename_i ds hx
      have e : ds[i]? = some d := Option.some.inj e
      obtain ⟨xs, h1, r1⟩ := ok.lst hx
      obtain ⟨v, hv, rv⟩ := r1.get i e
      rw [ea] at h1
      refine ⟨⟨xs, v, SqL.of h1, hv⟩, fun x H'' y => ?_⟩
      obtain ⟨eH, y⟩ := y
      subst eH
      have := y xs (SqL.of h1)
      rw [hv] at this
      cases this
      exact ⟨Ext.refl _ _ _, ok, rv⟩
    · cases e
  · unfold sqRef at e
    split at e
    · rename_i ds hx
      have e : ds[i]? = none := Option.some.inj e
      obtain ⟨xs, h1, r1⟩ := ok.lst hx
      rw [ea] at h1
      exact ⟨xs, SqL.of h1, by rw [r1.len]; exact List.getElem?_eq_none_iff.mp e⟩
    · cases e
/-- a list or a tuple -/
theorem xi_seq {tg e : Expr} {m : M D} (h : XE X ec W e m) : XI X ec W tg e (mSeq m) := imI (orI (pi_list h) (pi_tup h)) fun σ H Q h => by
  obtain ⟨φ, S, ρ, c⟩ := Cf.start h
  obtain ⟨r0, e0, q0⟩ := c.run
  unfold mSeq mB at e0
  cases hm : m ρ S with
  | none => rw [hm] at e0; cases e0
  | some z =>
    cases z with
    | exc x S1 =>
      rw [hm] at e0
      cases e0
      exact .inl ⟨φ, S, ρ, c.ok, c.env, _, hm, q0⟩
    | val d S1 =>
      rw [hm] at e0
      dsimp only at e0
      cases hq : sqOf S1 d with
      | none => rw [hq] at e0; cases e0
      | some sq =>
        rw [hq] at e0
        cases e0
        cases d with
        | tup ds =>
          refine .inr ⟨φ, S, ρ, c.ok, c.env, _, hm, fun φ' H' b ex ok rb => ?_⟩
          cases rb with
          | tup h1 r1 =>
            cases hq
            exact ⟨_, rfl, ⟨_, .inl (.inl h1)⟩, q0 φ' H' _ ex ok (seqR_tup ok (.inl h1) r1)⟩
        | kt ds =>
          refine .inr ⟨φ, S, ρ, c.ok, c.env, _, hm, fun φ' H' b ex ok rb => ?_⟩
          cases rb with
          | kt h1 r1 =>
            cases hq
            exact ⟨_, rfl, ⟨_, .inr h1⟩, q0 φ' H' _ ex ok (seqR_tup ok (.inr h1) r1)⟩
        | fro ds =>
          refine .inl ⟨φ, S, ρ, c.ok, c.env, _, hm, fun φ' H' b ex ok rb => ?_⟩
          cases rb with
          | fro h1 r1 =>
            cases hq
            exact ⟨_, rfl, ⟨_, h1.sq⟩, q0 φ' H' _ ex ok (seqR_fro ok h1 r1)⟩
        | ref j =>
          unfold sqOf at hq
          dsimp only at hq
          split at hq
          · rename_i ds hl
            cases hq
            refine .inl ⟨φ, S, ρ, c.ok, c.env, _, hm, fun φ' H' b ex ok rb => ?_⟩
            cases rb with
            | ref hj =>
              obtain ⟨xs, h1, r1⟩ := ok.lst hl
              exact ⟨_, rfl, ⟨_, SqL.of h1⟩, q0 φ' H' _ ex ok (seqR_ref ok hj)⟩
          · cases hq
        | _ => cases hq

/-! ### ranges -/
def rngD (lo : Int) (n : Nat) : List D := (List.range n).map fun k => .int (lo + (k : Nat))
theorem rngD_get {lo : Int} {n i : Nat} {d : D} (h : (rngD lo n)[i]? = some d) : i < n ∧ d = .int (lo + (i : Nat)) := by
  unfold rngD at h
  rw [List.getElem?_map] at h
  by_cases c : i < n
  · rw [List.getElem?_range c] at h
    cases h
    exact ⟨c, rfl⟩
  · rw [List.getElem?_eq_none (by rw [List.length_range]; omega)] at h
    cases h
theorem rngD_none {lo : Int} {n i : Nat} (h : (rngD lo n)[i]? = none) : n ≤ i := by
  have := List.getElem?_eq_none_iff.mp h
  unfold rngD at this
  rw [List.length_map, List.length_range] at this
  exact this
theorem seqR_rng {K : PySem.W.Frag} {φ : Nat → Addr} {n : Nat} {H : Hp} {lo : Int} {m : Nat} : SeqR K φ n H (Itr lo m) (sqIt (rngD lo m)) := fun φ' S' H' ok ex i => by
  refine ⟨fun d e => ?_, fun e => ?_⟩
  · obtain ⟨h1, h2⟩ := rngD_get (show (rngD lo m)[i]? = some d from Option.some.inj e)
    refine ⟨h1, fun x H'' y => ?_⟩
    obtain ⟨eH, y⟩ := y
    subst eH
    subst y
    subst h2
    exact ⟨Ext.refl _ _ _, ok, .int _⟩
  · exact rngD_none (Option.some.inj e)
def rngOk (i : Int) : Bool := decide (-(2 ^ 62) ≤ i) && decide (i < 2 ^ 62)
theorem rngOk_of {i : Int} (h : rngOk i = true) : -(2 ^ 62) ≤ i ∧ i < 2 ^ 62 := by
  unfold rngOk at h
  rw [Bool.and_eq_true] at h
  exact ⟨of_decide_eq_true h.1, of_decide_eq_true h.2⟩
def mRng1 (ms : M (List D)) : M Sq := mB ms fun as _ S => match as with
  | [.int j] => if rngOk j = true then some (.val (sqIt (rngD 0 j.toNat)) S) else none
  | _ => none
theorem xi_rng1 {tg a : Expr} {ms : M (List D)} {p pos : Pos} (ha : XA X ec W [a] ms) (hm : X.mg "range" = none) (hg : Gl X "range" := by rfl) (hs : starEach [a] X.env = [(false, eval a X.env)] := by rfl) : XI X ec W tg (.Call (.Name "range" p) [a] [] pos) (mRng1 ms) := imI (pi_range1 hg hm ha hs) fun σ H Q h => by
  obtain ⟨φ, S, ρ, c⟩ := Cf.start h
  refine rd_imp (c.bind (rel1 := Rels X.K) monoC_true) fun xs H1 ⟨φ1, S1, as, ra, c1⟩ => ?_
  obtain ⟨r, e, q⟩ := c1.run
  split at e
  · split at e
    · rename_i j hj
      cases e
      cases ra with
      | cons r1 t1 =>
        cases r1
        cases t1
        obtain ⟨h1, h2⟩ := rngOk_of hj
        exact ⟨j, rfl, h1, h2, q φ1 H1 _ (Ext.refl _ _ _) c1.ok seqR_rng⟩
    · cases e
  · cases e
def mRng2 (ms : M (List D)) : M Sq := mB ms fun as _ S => match as with
  | [.int i, .int j] => if (rngOk i && rngOk j) = true then some (.val (sqIt (rngD i (j - i).toNat)) S) else none
  | _ => none
theorem xi_rng2 {tg a b : Expr} {ms : M (List D)} {p pos : Pos} (ha : XA X ec W [a, b] ms) (hm : X.mg "range" = none) (hg : Gl X "range" := by rfl) (hs : starEach [a, b] X.env = [(false, eval a X.env), (false, eval b X.env)] := by rfl) (hs2 : starEach [b] X.env = [(false, eval b X.env)] := by rfl) : XI X ec W tg (.Call (.Name "range" p) [a, b] [] pos) (mRng2 ms) := imI (pi_range2 hg hm ha hs hs2) fun σ H Q h => by
  obtain ⟨φ, S, ρ, c⟩ := Cf.start h
  refine rd_imp (c.bind (rel1 := Rels X.K) monoC_true) fun xs H1 ⟨φ1, S1, as, ra, c1⟩ => ?_
  obtain ⟨r, e, q⟩ := c1.run
  split at e
  · split at e
    · rename_i i j hj
      cases e
      cases ra with
      | cons r1 t1 =>
        cases r1
        cases t1 with
        | cons r2 t2 =>
          cases r2
          cases t2
          rw [Bool.and_eq_true] at hj
          obtain ⟨h1, h2⟩ := rngOk_of hj.1
          obtain ⟨h3, h4⟩ := rngOk_of hj.2
          exact ⟨i, j, rfl, ⟨h1, h2, h3, h4⟩, q φ1 H1 _ (Ext.refl _ _ _) c1.ok seqR_rng⟩
    · cases e
  · cases e
/-! from the end -/
def revD (lo : Int) (n : Nat) : List D := (List.range n).map fun k => .int (lo + (n : Nat) - 1 - (k : Nat))
theorem seqR_rev {K : PySem.W.Frag} {φ : Nat → Addr} {n : Nat} {H : Hp} {lo : Int} {m : Nat} : SeqR K φ n H (Itc (lo + (m : Nat) - 1) (-1) m) (sqIt (revD lo m)) := fun φ' S' H' ok ex i => by
  have hg : ∀ {d}, (revD lo m)[i]? = some d → i < m ∧ d = .int (lo + (m : Nat) - 1 + (i : Nat) * (-1)) := fun {d} h => by
    unfold revD at h
    rw [List.getElem?_map] at h
    by_cases c : i < m
    · rw [List.getElem?_range c] at h
      cases h
      refine ⟨c, ?_⟩
      have : lo + (m : Int) - 1 - (i : Int) = lo + (m : Int) - 1 + (i : Int) * (-1) := by omega
      show D.int (lo + (m : Int) - 1 - (i : Int)) = _
      rw [this]
    · rw [List.getElem?_eq_none (by rw [List.length_range]; omega)] at h
      cases h
  refine ⟨fun d e => ?_, fun e => ?_⟩
  · obtain ⟨h1, h2⟩ := hg (show (revD lo m)[i]? = some d from Option.some.inj e)
    refine ⟨h1, fun x H'' y => ?_⟩
    obtain ⟨eH, y⟩ := y
    subst eH
    subst y
    subst h2
    exact ⟨Ext.refl _ _ _, ok, .int _⟩
  · have := List.getElem?_eq_none_iff.mp (show (revD lo m)[i]? = none from Option.some.inj e)
    unfold revD at this
    rw [List.length_map, List.length_range] at this
    exact this
def mRev1 (m : M D) : M Sq := mB m fun a _ S => match a with
  | .int j => if rngOk j = true then some (.val (sqIt (revD 0 j.toNat)) S) else none
  | _ => none
theorem xi_rev1 {tg a : Expr} {m : M D} {p pos p' pos' : Pos} (ha : XE X ec W a m) (hm : X.mg "reversed" = none) (hm' : X.mg "range" = none) (hg : Gl X "reversed" := by rfl) (hg' : Gl X "range" := by rfl) (na : starEach [a] X.env = (false, eval a X.env) :: starEach [] X.env := by rfl)
    (hs : starEach [.Call (.Name "range" p') [a] [] pos'] X.env = (false, eval (.Call (.Name "range" p') [a] [] pos') X.env) :: starEach [] X.env := by rfl) : XI X ec W tg (.Call (.Name "reversed" p) [.Call (.Name "range" p') [a] [] pos'] [] pos) (mRev1 m) := imI (pi_revR hg hm (prg_1 hg' hm' ha na) hs) fun σ H Q h => by
  obtain ⟨φ, S, ρ, c⟩ := Cf.start h
  refine rd_imp (c.bind (rel1 := Rel X.K) monoC_true) fun x H1 ⟨φ1, S1, a, ra, c1⟩ => ?_
  obtain ⟨r, e, q⟩ := c1.run
  split at e
  · split at e
    · rename_i j hj
      cases e
      cases ra
      obtain ⟨h1, h2⟩ := rngOk_of hj
      refine ⟨j, rfl, by omega, by omega, h1, h2, ?_⟩
      have := q φ1 H1 _ (Ext.refl _ _ _) c1.ok (seqR_rev (lo := 0) (m := j.toNat))
      rw [show (j - 0).toNat = j.toNat by omega]
      exact this
    · cases e
  · cases e
def mRev2 (m m' : M D) : M Sq := mB m fun a => mB m' fun b _ S => match a, b with
  | .int i, .int j => if (rngOk i && rngOk j) = true then some (.val (sqIt (revD i (j - i).toNat)) S) else none
  | _, _ => none
theorem xi_rev2 {tg a b : Expr} {m m' : M D} {p pos p' pos' : Pos} (ha : XE X ec W a m) (hb : XE X ec W b m') (hm : X.mg "reversed" = none) (hm' : X.mg "range" = none) (hg : Gl X "reversed" := by rfl) (hg' : Gl X "range" := by rfl) (na : starEach [a, b] X.env = (false, eval a X.env) :: starEach [b] X.env := by rfl)
    (nb : starEach [b] X.env = (false, eval b X.env) :: starEach [] X.env := by rfl) (hp : (backTo pos' (starEach [b] X.env)).any (·.1) = false := by rfl)
    (hs : starEach [.Call (.Name "range" p') [a, b] [] pos'] X.env = (false, eval (.Call (.Name "range" p') [a, b] [] pos') X.env) :: starEach [] X.env := by rfl) : XI X ec W tg (.Call (.Name "reversed" p) [.Call (.Name "range" p') [a, b] [] pos'] [] pos) (mRev2 m m') := imI (pi_revR hg hm (prg_2 hg' hm' ha hb na nb hp) hs) fun σ H Q h => by
  obtain ⟨φ, S, ρ, c⟩ := Cf.start h
  refine rd_imp (c.bind (rel1 := Rel X.K) monoC_true) fun x H1 ⟨φ1, S1, a, ra, c1⟩ => ?_
  refine rd_imp ((c1.carry ra).bind (rel1 := Rel X.K) monoC_rel) fun y H2 ⟨φ2, S2, b, rb, c2⟩ => ?_
  obtain ⟨r, e, q⟩ := c2.run
  have ra := c2.car
  cases ra with
  | int i =>
    cases rb with
    | int j =>
      dsimp only at e
      split at e
      · rename_i hj
        cases e
        rw [Bool.and_eq_true] at hj
        obtain ⟨h1, h2⟩ := rngOk_of hj.1
        obtain ⟨h3, h4⟩ := rngOk_of hj.2
        exact ⟨i, j, rfl, rfl, h1, h2, h3, h4, q φ2 H2 _ (Ext.refl _ _ _) c2.ok seqR_rev⟩
      · cases e
    | _ => cases e
  | _ => cases e

/-! ### for -/
def loopQ (t : Tgt) (b : MS) (sq : Sq) : Nat → Nat → MS
  | 0, _ => fun _ _ => none
  | n + 1, i => fun ρ S => match sq i S with
    | none => none
    | some none => some (.nx ρ S)
    | some (some d) => match t d ρ S with
      | none => none
      | some ρ1 => match b ρ1 S with
        | some (.nx ρ' S') => loopQ t b sq n (i + 1) ρ' S'
        | some (.cnt ρ' S') => loopQ t b sq n (i + 1) ρ' S'
        | some (.brk ρ' S') => some (.nx ρ' S')
        | r => r
def sFor (t : Tgt) (it : M Sq) (b : MS) : MS := sB it fun sq => loopQ t b sq fuel 0
theorem x_for {tg iter : Expr} {body : List Stmt} {mi : M Sq} {mb : MS} {g : TG} {t : Tgt} {vs : List Nat} {pos : Pos} (hp : PassesOwn (model X.prog X.w) X.A X.env X.xe) (hc : X.calm = true) (hi : XI X ec W tg iter mi) (hg : PG X tg g) (ht : TgS X.K g t vs) (hb : XSs X ec W body mb)
    (hs : ∀ x, foldedSetIterable iter X.env x = pure x := by intro _; rfl) : XS X ec W (.For tg iter body [] pos) (sFor t mi mb) := imS (ps_for hp hc hi hg hb hs) fun D σ H h => by
  obtain ⟨φ, S, ρ, c⟩ := Cs.start h
  refine rd_imp (c.bind (rel1 := SeqR X.K) monoC_true) fun J H1 ⟨φ1, S1, sq, rJ, ex, c1⟩ => ?_
  refine ⟨fun i m σ H => ∃ φ S ρ r, Ok X.K φ S H ∧ RelE X.K φ S.length H ρ σ ∧ SeqR X.K φ S.length H J sq ∧ loopQ t mb sq m i ρ S = some r ∧ KS X.K ec W φ S.length H D r, ?_, ?_⟩
  · obtain ⟨r, e, q⟩ := c1.run
    exact ⟨fuel, φ1, S1, ρ, r, c1.ok, c1.env, rJ, e, q⟩
  · rintro i m σ H ⟨φ, S, ρ, r, ok, env, rJ, e, q⟩
    cases m with
    | zero => cases e
    | succ m =>
      unfold loopQ at e
      have RJ := rJ φ S H ok (Ext.refl _ _ _) i
      split at e
      · cases e
      · rename_i e1
        cases e
        exact .inl ⟨RJ.2 e1, q φ H σ (Ext.refl _ _ _) ok env⟩
      · rename_i d e1
        obtain ⟨go, yld⟩ := RJ.1 d e1
        refine .inr ⟨go, fun σ H => ∃ φ S ρ r, Ok X.K φ S H ∧ RelE X.K φ S.length H ρ σ ∧ SeqR X.K φ S.length H J sq ∧ loopQ t mb sq m (i + 1) ρ S = some r ∧ KS X.K ec W φ S.length H D r, fun σ' H' h => ⟨m, Nat.lt_succ_self _, h⟩, fun x H' y => ?_⟩
        obtain ⟨ex1, ok1, rx⟩ := yld x H' y
        split at e
        · cases e
        · rename_i ρ1 e2
          refine ht φ S H' σ ρ x d ρ1 ok1 (env.mono ok ex1) rx e2 _ fun σ1 env1 _ => ?_
          refine ⟨φ, S, ρ1, ok1, env1, ?_⟩
          split at e
          · rename_i ρ' S' e3
            exact ⟨_, e3, fun φ2 H2 σ2 ex2 ok2 env2 => ⟨φ2, S', ρ', r, ok2, env2, Mono.mono ok (ex1.trans ex2) rJ, e, q.ext (ex1.trans ex2)⟩⟩
          · rename_i ρ' S' e3
            exact ⟨_, e3, fun φ2 H2 σ2 ex2 ok2 env2 => ⟨φ2, S', ρ', r, ok2, env2, Mono.mono ok (ex1.trans ex2) rJ, e, q.ext (ex1.trans ex2)⟩⟩
          · rename_i ρ' S' e3
            cases e
            exact ⟨_, e3, fun φ2 H2 σ2 ex2 ok2 env2 => q φ2 H2 σ2 (ex1.trans ex2) ok2 env2⟩
          · rename_i h1 h2 h3
            refine ⟨r, e, ?_⟩
            cases r with
            | nx ρ' S' => exact absurd e (h1 ρ' S')
            | cnt ρ' S' => exact absurd e (h2 ρ' S')
            | brk ρ' S' => exact absurd e (h3 ρ' S')
            | ret d S' => exact KS.ext ex1 q
            | exc c ρ' S' => exact KS.ext ex1 q

/-! ### comprehensions -/
def wipeE (ρ : Env) : List Nat → Env
  | [] => ρ
  | v :: vs => (wipeE ρ vs).set v none
theorem RelE.wipe {K : PySem.W.Frag} {φ : Nat → Addr} {n : Nat} {H : Hp} {ρ : Env} {σ : L2.St} (r : RelE K φ n H ρ σ) : ∀ vs : List Nat, RelE K φ n H (wipeE ρ vs) (wipe σ vs)
  | [] => r
  | v :: vs => (RelE.wipe r vs).unset v
def loopC (t : Tgt) (c : M Bool) (el : M D) (sq : Sq) (ρ0 : Env) (n0 : Nat) : Nat → Nat → Sto → Option Sto
  | 0, _, _ => none
  | n + 1, i, S => match sq i S with
    | none => none
    | some none => some S
    | some (some d) => match t d ρ0 S with
      | none => none
      | some ρ1 => match c ρ1 S with
        | some (.val false S1) => loopC t c el sq ρ0 n0 n (i + 1) S1
        | some (.val true S1) => match el ρ1 S1 with
          | some (.val y S2) => match S2[n0]? with
            | some (.lst acc) => if acc.length < 1000000 then loopC t c el sq ρ0 n0 n (i + 1) (S2.set n0 (.lst (acc ++ [y]))) else none
            | _ => none
          | _ => none
        | _ => none
def mLc (vs : List Nat) (t : Tgt) (it : M Sq) (c : M Bool) (el : M D) : M D := mB it fun sq ρ S => match loopC t c el sq (wipeE ρ vs) S.length fuel 0 (S ++ [.lst []]) with
  | some S' => some (.val (.ref S.length) S')
  | none => none
def W0 : WX := fun _ _ _ _ => False
def mYes : M Bool := mRet true
/-- the tests of a comprehension -/
def XTs (X : Cx) (ec : Str → Value) (W : WX) (ifs : List Expr) (m : M Bool) : Prop := PTs X ifs (rd X.K ec RelB W m)
theorem xts_nil : XTs X ec W [] mYes := ⟨fun pins s σ H Q I h => pts_nil.run pins s σ H Q I (rd_ret (rel := RelB) (fun _ _ _ => rfl) h)⟩
theorem xts_one {c : Expr} {m : M Bool} (h : XT X ec W c m) : XTs X ec W [c] m := pts_one h
theorem lc_red {K : PySem.W.Frag} {mi : M Sq} {mt : M Bool} {me : M D} {g : TG} {t : Tgt} {vs : List Nat} (ht : TgS K g t vs) {σ : L2.St} {H : Hp} {Q : VK} (h : rd K ec (Rel K) W (mLc vs t mi mt me) σ H Q) :
    tLc (rd K ec (SeqR K) W mi) g (rd K ec RelB W0 mt) (rd K ec (Rel K) W0 me) vs σ H Q := by
  obtain ⟨φ, S, ρ, c⟩ := Cf.start h
  refine rd_imp (c.bind (rel1 := SeqR K) monoC_true) fun J H1 ⟨φ1, S1, sq, rJ, c1⟩ => ?_
  intro Da hD
  obtain ⟨r0, e0, q0⟩ := c1.run
  cases hl : loopC t mt me sq (wipeE ρ vs) S1.length fuel 0 (S1 ++ [.lst []]) with
  | none => rw [hl] at e0; cases e0
  | some SF =>
    rw [hl] at e0
    cases e0
    have ex0 : Ext φ1 S1.length H1 (nxt φ1 S1.length Da) (S1 ++ [O.lst []]).length (upd H1 Da (.lst [])) := ext_new' hD
    have ok0 : Ok K (nxt φ1 S1.length Da) (S1 ++ [O.lst []]) (upd H1 Da (.lst [])) := c1.ok.new hD (.lst .nil)
    refine ⟨fun i m H => ∃ φ S, Ok K φ S H ∧ Ext φ1 S1.length H1 φ S.length H ∧ φ S1.length = Da ∧ S1.length < S.length ∧ loopC t mt me sq (wipeE ρ vs) S1.length m i S = some SF, ?_, ?_⟩
    · exact ⟨fuel, _, _, ok0, ex0, nxt_new, by rw [List.length_append, List.length_singleton]; exact Nat.lt_succ_self _, hl⟩
    · rintro i m H ⟨φ, S, ok, ex, eD, hn, e⟩
      cases m with
      | zero => cases e
      | succ m =>
        unfold loopC at e
        have RJ := rJ φ S H ok ex i
        split at e
        · cases e
        · rename_i e1
          cases e
          refine .inl ⟨RJ.2 e1, ?_⟩
          have := q0 φ H (.ref Da) ex ok (by rw [← eD]; exact .ref hn)
          exact this
        · rename_i d e1
          obtain ⟨go, yld⟩ := RJ.1 d e1
          refine .inr ⟨go, fun H => ∃ φ S, Ok K φ S H ∧ Ext φ1 S1.length H1 φ S.length H ∧ φ S1.length = Da ∧ S1.length < S.length ∧ loopC t mt me sq (wipeE ρ vs) S1.length m (i + 1) S = some SF, fun H' h => ⟨m, Nat.lt_succ_self _, h⟩, fun x H' y => ?_⟩
          obtain ⟨ex1, ok1, rx⟩ := yld x H' y
          split at e
          · cases e
          · rename_i ρ1 e2
            have envw : RelE K φ S.length H' (wipeE ρ vs) (wipe σ vs) := ((c1.env.mono c1.ok (ex.trans ex1)).wipe vs)
            refine ht φ S H' _ _ x d ρ1 ok1 envw rx e2 _ fun σ1 env1 w1 => ⟨?_, ?_⟩
            · have ww : ∀ (vs : List Nat) (σ : L2.St), L2.wipe (L2.wipe σ vs) vs = L2.wipe σ vs := by
                intro vs σ
                have : ∀ (us : List Nat), (∀ u ∈ us, u ∈ vs) → L2.wipe (L2.wipe σ us) vs = L2.wipe σ vs := by
                  intro us
                  induction us with
                  | nil => intro _; rfl
                  | cons u us ih =>
                    intro hu
                    show L2.wipe ((L2.wipe σ us).set u none) vs = _
                    rw [wipe_set (hu u List.mem_cons_self), ih fun v hv => hu v (List.mem_cons_of_mem _ hv)]
                exact this vs fun _ h => h
              rw [w1, ww]
            · have exT : Ext φ1 S1.length H1 φ S.length H' := ex.trans ex1
              split at e
              · rename_i Sa e3
                refine ⟨φ, S, ρ1, ok1, env1, _, e3, fun φ2 H2 b ex2 ok2 rb => ?_⟩
                cases rb
                exact iteF ⟨φ2, Sa, ok2, exT.trans ex2, by rw [ex2.same _ hn]; exact eD, Nat.lt_of_lt_of_le hn ex2.le, e⟩
              · rename_i Sa e3
                refine ⟨φ, S, ρ1, ok1, env1, _, e3, fun φ2 H2 b ex2 ok2 rb => ?_⟩
                cases rb
                refine iteT ?_
                split at e
                · rename_i yv Sb e4
                  refine ⟨φ2, Sa, ρ1, ok2, env1.mono ok1 ex2, _, e4, fun φ3 H3 b ex3 ok3 rb => ?_⟩
                  have hn3 : S1.length < Sb.length := Nat.lt_of_lt_of_le hn (Nat.le_trans ex2.le ex3.le)
                  have eD3 : φ3 S1.length = Da := by rw [ex3.same _ (Nat.lt_of_lt_of_le hn ex2.le), ex2.same _ hn]; exact eD
                  split at e
                  · rename_i acc e5
                    split at e
                    · rename_i hsz
                      obtain ⟨us, h6, r6⟩ := ok3.lst e5
                      refine ⟨us, by rw [← eD3]; exact h6, by rw [r6.len]; exact Nat.lt_of_lt_of_le hsz (by decide), φ3, _, ?_, ?_, eD3, ?_, e⟩
                      · rw [← eD3]
                        exact ok3.put hn3 (nfL h6) (.lst (r6.app (.cons rb .nil)))
                      · rw [← eD3, List.length_set]
                        exact ((exT.trans ex2).trans ex3).trans (ext_put ok3 hn3 (nfL h6))
                      · rw [List.length_set]; exact hn3
                    · cases e
                  · cases e
                · cases e
              · cases e
theorem x_lc {elt tg iter : Expr} {ifs : List Expr} {scope : Scope} {own : List (Str × Nat)} {pos : Pos} {mi : M Sq} {mt : M Bool} {me : M D} {g : TG} {t : Tgt} (hc : X.calm = true) (hN : X.N.Nodup) (hi : XI X ec W tg iter mi) (ok : BlkOk X.N X.env.scope scope own)
    (hg : ∀ (s : Shared) (H : Hp) (C : Addr) (cl : List (Str × Addr)) (fp : List Addr), PG (X.blk s H scope (compEnvC scope cl C X.env) fp) tg g) (ht : TgS X.K g t (own.map (·.2)))
    (hif : ∀ (s : Shared) (H : Hp) (C : Addr) (cl : List (Str × Addr)) (fp : List Addr), XTs (X.blk s H scope (compEnvC scope cl C X.env) fp) ec W0 ifs mt)
    (he : ∀ (s : Shared) (H : Hp) (C : Addr) (cl : List (Str × Addr)) (fp : List Addr), XE (X.blk s H scope (compEnvC scope cl C X.env) fp) ec W0 elt me) (hs : ∀ x, foldedSetIterable iter X.env x = pure x := by intro _; rfl) :
    XE X ec W (.ListComp elt [⟨tg, iter, ifs, 0⟩] scope pos) (mLc (own.map (·.2)) t mi mt me) := imE (pe_lc (tt := rd X.K ec RelB W0 mt) (te := rd X.K ec (Rel X.K) W0 me) hc hN hi ok hg (fun s H C cl fp => hif s H C cl fp) (fun s H C cl fp => he s H C cl fp) hs) fun σ H Q h => lc_red ht h
theorem x_setLc {i : Nat} {y : Str} {py : Pos} {elt tg iter : Expr} {ifs : List Expr} {scope : Scope} {own : List (Str × Nat)} {pos spos : Pos} {mi : M Sq} {mt : M Bool} {me : M D} {g : TG} {t : Tgt} (hc : X.calm = true) (hN : X.N.Nodup) (hi : XI X ec W tg iter mi) (ok : BlkOk X.N X.env.scope scope own)
    (hg : ∀ (s : Shared) (H : Hp) (C : Addr) (cl : List (Str × Addr)) (fp : List Addr), PG (X.blk s H scope (compEnvC scope cl C X.env) fp) tg g) (ht : TgS X.K g t (own.map (·.2)))
    (hif : ∀ (s : Shared) (H : Hp) (C : Addr) (cl : List (Str × Addr)) (fp : List Addr), XTs (X.blk s H scope (compEnvC scope cl C X.env) fp) ec W0 ifs mt)
    (he : ∀ (s : Shared) (H : Hp) (C : Addr) (cl : List (Str × Addr)) (fp : List Addr), XE (X.blk s H scope (compEnvC scope cl C X.env) fp) ec W0 elt me) (hs : ∀ x, foldedSetIterable iter X.env x = pure x := by intro _; rfl)
    (hy : X.N[i]? = some y := by rfl) (hyl : X.env.scope.names.lookup y = some .local := by rfl) (hsw : swapsWith (.ListComp elt [⟨tg, iter, ifs, 0⟩] scope pos) (some (.Name y py)) spos.line X.env = pure true) :
    XS X ec W (.Assign [.Name y py] (.ListComp elt [⟨tg, iter, ifs, 0⟩] scope pos) spos) (sSet i (mLc (own.map (·.2)) t mi mt me)) := imS (ps_setLc (tt := rd X.K ec RelB W0 mt) (te := rd X.K ec (Rel X.K) W0 me) hc hN hy hyl hsw hi ok hg (fun s H C cl fp => hif s H C cl fp) (fun s H C cl fp => he s H C cl fp) hs) fun D σ H h => by
  obtain ⟨φ, S, ρ, c⟩ := Cs.start h
  refine lc_red (W := W) (ec := ec) ht (rd_imp (c.bind (rel1 := Rel X.K) monoC_true) fun x H1 ⟨φ1, S1, a, ra, ex, c1⟩ => ?_)
  obtain ⟨r, e, q⟩ := c1.run
  cases e
  exact q φ1 H1 _ (Ext.refl _ _ _) c1.ok (c1.env.set i ra)
end Rf
namespace Rf
open PySem PySem.Spec PyProof.Rows L2

variable {X : Cx} {ec : Str → Value} {W : WX}
/-! ### is -/
def gIs : G2 := fun a b S => match b with
  | .non => match a with
    | .non => some (.bl true, S)
    | _ => some (.bl false, S)
  | .bl k => match a with
    | .bl c => some (.bl (decide (c = k)), S)
    | .ty _ => none
    | _ => some (.bl false, S)
  | _ => none
theorem op_isB : OpR X (compareOp .Is) (fun x y H Q => ∃ b, y = .bl b ∧ (∀ n, x ≠ .ty n) ∧ Q (.bl (decide (x = .bl b))) H) := by
  intro pins s σ H x y v u Q I rx ry h
  obtain ⟨b, rfl, ht, q⟩ := h
  cases ry
  cases x with
  | bl c =>
    cases rx
    by_cases e : c = b
    · subst e
      exact wpAny_is_self rfl ⟨.bl true, H, I, rfl, by simpa using q⟩
    · exact wpAny_is_other rfl (fun z => e (Value.bool.inj z)) ⟨.bl false, H, I, rfl, by simpa [e] using q⟩
  | non => cases rx; exact wpAny_is_other rfl (fun z => nomatch z) ⟨.bl false, H, I, rfl, by simpa using q⟩
  | int i => obtain ⟨t, rfl⟩ := rx; exact wpAny_is_other rfl (fun z => nomatch z) ⟨.bl false, H, I, rfl, by simpa using q⟩
  | str i => obtain ⟨t, rfl⟩ := rx; exact wpAny_is_other rfl (fun z => nomatch z) ⟨.bl false, H, I, rfl, by simpa using q⟩
  | byt i => obtain ⟨t, rfl⟩ := rx; exact wpAny_is_other rfl (fun z => nomatch z) ⟨.bl false, H, I, rfl, by simpa using q⟩
  | flt i => obtain ⟨t, rfl⟩ := rx; exact wpAny_is_other rfl (fun z => nomatch z) ⟨.bl false, H, I, rfl, by simpa using q⟩
  | ref a => cases rx; exact wpAny_is_other rfl (fun z => nomatch z) ⟨.bl false, H, I, rfl, by simpa using q⟩
  | ty n => exact absurd rfl (ht n)
theorem opS_is : OpS X (compareOp .Is) gIs := ⟨_, op_isN.or op_isB, fun φ S H x y a b c S' ok ra rb e Q q => by
  cases rb with
  | non =>
    refine .inl ⟨rfl, ?_⟩
    cases ra <;> (cases e; exact q φ H _ (Ext.refl _ _ _) ok (.bl _))
  | bl k =>
    refine .inr ⟨k, rfl, ?_, ?_⟩
    · intro n z
      subst z
      cases ra
      cases e
    · cases ra <;> first
        | (cases e; refine q φ H _ (Ext.refl _ _ _) ok ?_; simp only [V.bl.injEq]; exact .bl _)
        | (cases e; refine q φ H _ (Ext.refl _ _ _) ok ?_; exact .bl _)
        | cases e
  | _ => cases e⟩

/-! ### == of what has no parts -/
def gEq : G2 := fun a b S => match a, b with
  | .int i, .int j => some (.bl (decide (i = j)), S)
  | .str i, .str j => some (.bl (decide (i = j)), S)
  | .bl i, .bl j => some (.bl (decide (i = j)), S)
  | .non, .non => some (.bl true, S)
  | .int _, .non => some (.bl false, S)
  | .non, .int _ => some (.bl false, S)
  | .int _, .str _ => some (.bl false, S)
  | .str _, .int _ => some (.bl false, S)
  | _, _ => none
theorem opS_eq : OpS X (compareOp .Eq) gEq := ⟨_, op_eq, fun φ S H x y a b c S' ok ra rb e Q q => by
  cases ra <;> cases rb <;> first
    | (cases e; done)
    | (cases e; refine ⟨rfl, q φ H _ (Ext.refl _ _ _) ok ?_⟩; simp only [V.int.injEq, V.str.injEq, V.bl.injEq]; exact .bl _)
    | (cases e; exact ⟨rfl, q φ H _ (Ext.refl _ _ _) ok (.bl _)⟩)⟩
def gNe : G2 := fun a b S => match a, b with
  | .int i, .int j => some (.bl (!decide (i = j)), S)
  | .str i, .str j => some (.bl (!decide (i = j)), S)
  | .bl i, .bl j => some (.bl (!decide (i = j)), S)
  | .non, .non => some (.bl false, S)
  | .int _, .non => some (.bl true, S)
  | .non, .int _ => some (.bl true, S)
  | .int _, .str _ => some (.bl true, S)
  | .str _, .int _ => some (.bl true, S)
  | _, _ => none
theorem opS_ne : OpS X (compareOp .NotEq) gNe := ⟨_, op_ne, fun φ S H x y a b c S' ok ra rb e Q q => by
  cases ra <;> cases rb <;> first
    | (cases e; done)
    | (cases e; refine ⟨rfl, q φ H _ (Ext.refl _ _ _) ok ?_⟩; simp only [V.int.injEq, V.str.injEq, V.bl.injEq]; exact .bl _)
    | (cases e; exact ⟨rfl, q φ H _ (Ext.refl _ _ _) ok (.bl _)⟩)⟩

/-! ### xs.append(e) -/
def mApp (mo me : M D) : M D := mB mo fun o ρ S => match o with
  | .ref i => match S[i]? with
    | some (.lst _) => (mB me fun d _ S2 => match S2[i]? with
      | some (.lst xs) => if xs.length < 1000000 then some (.val .non (S2.set i (.lst (xs ++ [d])))) else none
      | _ => none) ρ S
    | _ => none
  | _ => none
theorem x_app {o e : Expr} {mo me : M D} {apos cpos : Pos} (ho : XE X ec W o mo) (he : XE X ec W e me) (hbase : attributeBase o "append" X.env (eval o X.env) = eval o X.env := by rfl)
    (hfew : ((backTo cpos (starEach (e :: []) X.env)).all (fun x => !x.1) && (backToKw cpos (keywordEach [] X.env)).all (fun x => x.1.isSome) && decide ((e :: []).length + ([] : List Keyword).length + (if ([] : List Keyword).isEmpty then 0 else 1) < 30)) = true := by rfl)
    (hline : (apos.endLine == cpos.line) = true := by rfl) (hs : starEach (e :: []) X.env = (false, eval e X.env) :: starEach [] X.env := by rfl) (hplain : (backTo cpos (starEach [] X.env)).any (·.1) = false := by rfl) :
    XE X ec W (.Call (.Attribute o "append" apos) [e] [] cpos) (mApp mo me) :=
  imE (pe_bm PySem.F.plainAttrs_list PySem.F.slot_list_append PySem.F.type_list_append mt_append ho (pa_cons he pa_nil hs) hbase hfew hline hs hplain) fun σ H Q h => by
  obtain ⟨φ, S, ρ, c⟩ := Cf.start h
  refine rd_imp (c.bind (rel1 := Rel X.K) monoC_true) fun x H1 ⟨φ1, S1, a, ra, c1⟩ => ?_
  obtain ⟨r, e, q⟩ := c1.run
  cases ra with
  | @ref i hi =>
    dsimp only at e
    split at e
    · rename_i xs0 hx0
      obtain ⟨us0, h0, r0⟩ := c1.ok.lst hx0
      refine ⟨.inl ⟨rfl, us0, SqL.of h0⟩, ?_⟩
      have c2 : Cf X.K ec (Rel X.K) W (fun φ n H => Rel X.K φ n H (.ref (φ1 i)) (.ref i)) φ1 S1 ρ σ H1 Q ((mB me fun d _ S2 => match S2[i]? with
        | some (.lst xs) => if xs.length < 1000000 then some (.val .non (S2.set i (.lst (xs ++ [d])))) else none
        | _ => none) ρ) := ⟨c1.ok, c1.env, .ref hi, r, e, q⟩
      refine rd_imp (c2.bind (rel1 := Rel X.K) monoC_rel) fun y H2 ⟨φ2, S2, d, rd2, c3⟩ => ?_
      obtain ⟨r3, e3, q3⟩ := c3.run
      have cr := c3.car
      have ea : φ1 i = φ2 i ∧ i < S2.length := by
        generalize hz : V.ref (φ1 i) = z at cr
        cases cr with
        | ref h => exact ⟨V.ref.inj hz, h⟩
      split at e3
      · rename_i xs hx
        split at e3
        · rename_i hsz
          cases e3
          obtain ⟨us, h1, r1⟩ := c3.ok.lst hx
          refine ⟨φ1 i, us, y, rfl, rfl, by rw [ea.1]; exact h1, by rw [r1.len]; exact Nat.lt_of_lt_of_le hsz (by decide), ?_⟩
          rw [ea.1]
          refine q3 φ2 _ .non ?_ (c3.ok.put ea.2 (nfL h1) (.lst (r1.app (.cons rd2 .nil)))) .non
          rw [List.length_set]
          exact ext_put c3.ok ea.2 (nfL h1)
        · cases e3
      · cases e3
    · cases e
  | _ => cases e

/-! ### x op= e -/
def sAug (i : Nat) (g : G2) (m : M D) : MS := fun ρ S => match ρ[i]? with
  | some (some d0) => sB m (fun d ρ S => match g d0 d S with
    | some (c, S') => some (.nx (ρ.set i (some c)) S')
    | none => none) ρ S
  | _ => none
theorem x_aug {x : Str} {e : Expr} {m : M D} {op : Operator} {g : G2} {pos pos' : Pos} (i : Nat) (hN : X.N.Nodup) (ho : OpS X (inplaceOp op) g) (h : XE X ec W e m) (hi : X.N[i]? = some x := by rfl) (hx : Loc X.env.scope x := by first | exact Or.inl rfl | exact Or.inr rfl) (hf : X.fn x = true ∨ X.env.scope.names.lookup x = some .local := by first | exact .inl rfl | exact .inr rfl | assumption) :
    XS X ec W (.AugAssign (.Name x pos') op e pos) (sAug i g m) := by
  obtain ⟨r2, hr2, hi2⟩ := ho
  refine imS (ps_aug hN hi hx h (show PIp X op r2 from hr2) hf) fun D σ H h => ?_
  obtain ⟨φ, S, ρ, ok, env, r, e, q⟩ := h
  unfold sAug at e
  split at e
  · rename_i d0 hd0
    obtain ⟨v0, hv0, rv0⟩ := env.at_ i d0 hd0
    refine ⟨v0, hv0, ?_⟩
    have c : Cs X.K ec W (fun φ n H => Rel X.K φ n H v0 d0) φ S ρ σ H D (sB m (fun d ρ S => match g d0 d S with
      | some (c, S') => some (.nx (ρ.set i (some c)) S')
      | none => none) ρ) := ⟨ok, env, rv0, r, e, q⟩
    refine rd_imp (c.bind (rel1 := Rel X.K) monoC_rel) fun y H1 ⟨φ1, S1, d, rd1, ex, c1⟩ => ?_
    obtain ⟨r1, e1, q1⟩ := c1.run
    cases hg : g d0 d S1 with
    | none => rw [hg] at e1; cases e1
    | some p =>
      obtain ⟨z, S'⟩ := p
      rw [hg] at e1
      cases e1
      exact hi2 φ1 S1 H1 v0 y d0 d z S' c1.ok c1.car rd1 hg _ fun φ' H' v ex' ok' rv => q1 φ' H' _ ex' ok' ((c1.env.mono c1.ok ex').set i rv)
  · cases e
def giAdd : G2 := gI (fun _ _ => true) fun i j => .int (i + j)
theorem opS_iadd : OpS X (inplaceOp .Add) giAdd := opS_I0 iop_add fun _ _ _ _ _ => .int _
def giSub : G2 := gI (fun _ _ => true) fun i j => .int (i - j)
theorem opS_isub : OpS X (inplaceOp .Sub) giSub := opS_I0 iop_sub fun _ _ _ _ _ => .int _

/-! ### a def -/
def fnOf (n : Nat) (m : MS) : List D → Sto → Option (R D) := fun ds S => match m (ds.map some ++ List.replicate (n - ds.length) none) S with
  | some (.nx _ S') => some (.val .non S')
  | some (.ret d S') => some (.val d S')
  | some (.exc c _ S') => some (.exc c S')
  | _ => none
theorem start_rel {K : PySem.W.Frag} {φ : Nat → Addr} {n : Nat} {H : Hp} {N : List Str} {vs : List V} {ds : List D} (r : Rels K φ n H vs ds) : RelE K φ n H (ds.map some ++ List.replicate (N.length - ds.length) none) (L2.start N vs) := by
  refine ⟨?_, fun i d h => ?_⟩
  · unfold L2.start
    rw [List.length_append, List.length_append, List.length_map, List.length_map, List.length_replicate, List.length_replicate, r.len]
  · have hi : i < ds.length := by
      by_cases c : i < ds.length
      · exact c
      · rw [List.getElem?_append_right (by rw [List.length_map]; omega), List.getElem?_replicate] at h
        split at h <;> cases h
    rw [List.getElem?_append_left (by rw [List.length_map]; exact hi), List.getElem?_map] at h
    cases e : ds[i]? with
    | none => rw [e] at h; cases h
    | some d' =>
      rw [e] at h
      cases h
      obtain ⟨v, hv, rv⟩ := r.get i e
      refine ⟨v, ?_, rv⟩
      unfold L2.start
      rw [List.getElem?_append_left (by rw [List.length_map, r.len]; exact hi), List.getElem?_map, hv]
      rfl
section
variable {P : Program} {w : World} {K : PySem.W.Frag} {mg : Str → Option Value} {base : Heap}
abbrev bodyX (P : Program) (w : World) (K : PySem.W.Frag) (mg : Str → Option Value) (base : Heap) (N : List Str) (qual : Str) (st : Stmt) (f : Addr) (cdv : Value) (A : Around) (outer : List PySem.Env) (s : Shared) (H : Hp) (E : XK) : Cx := cxOf (L2.CX P w) P w K mg base N qual (defScope st) f cdv A outer s H E
theorem fn_ok {x qual : Str} {st : Stmt} {f : Addr} {fd : FuncData} {N ps : List Str} {k n : Nat} {m : MS} (F : Fun K x qual st f fd) (Sc : FnScope N ps (defScope st)) (hn : N.length = n)
    (hb : ∀ (cdv : Value) (A : Around) (outer : List PySem.Env) (s : Shared) (H : Hp) (E : XK), Room k (bodyX P w K mg base N qual st f cdv A outer s H E).A → XSs (bodyX P w K mg base N qual st f cdv A outer s H E) ec (fun cls d _ H => E cls d H) (defBody st) m) :
    FnOk P w K mg base (L2.CX P w) (k + 1) f fd ps (spF K ec ps.length (fnOf n m)) := by
  subst hn
  refine F.okX Sc (fun vs H Q E h => ?_) (fun cdv A outer s H vs Q E hr h => ⟨_, hb cdv A outer s H E hr, ?_⟩)
  · obtain ⟨_, _, _, _, _, hl, _⟩ := h
    exact hl
  · obtain ⟨φ, S, ds, ok, rs, hl, r, e, q⟩ := h
    unfold fnOf at e
    refine ⟨φ, S, _, ok, start_rel (N := N) rs, ?_⟩
    split at e
    · rename_i ρ' S' e1
      cases e
      exact ⟨_, e1, fun φ' H' σ' ex ok' env' => q φ' H' .non ex ok' .non⟩
    · rename_i d S' e1
      cases e
      exact ⟨_, e1, q⟩
    · rename_i c ρ' S' e1
      cases e
      exact ⟨_, e1, fun φ' H' σ' ex ok' env' => q φ' H' ex ok'⟩
    · cases e
/-- a def of which nothing is known -/
theorem fn_none {f : Addr} {fd : FuncData} {ps : List Str} {k n : Nat} : FnOk P w K mg base (L2.CX P w) k f fd ps (spF K ec n fun _ _ => none) := by
  refine ⟨fun vs H Q E h => ?_, fun A outer s H args us vs Q E hr e0 hb hv h => ?_⟩
  · obtain ⟨_, _, _, _, _, _, _, e, _⟩ := h
    cases e
  · obtain ⟨_, _, _, _, _, _, _, e, _⟩ := h
    cases e
end
/-- raise C('..') -/
def sRaise (c : Str) : MS := fun ρ S => some (.exc c ρ S)
theorem x_raise {e : Expr} {x : Str} {v : Value} {pos : Pos} (hc : X.calm = true) (tk : Takes X W) (h : PMk X e (fun _ H Q => Q v none H)) (hv : ec x = v) : XS X ec W (.Raise (some e) none pos) (sRaise x) := imS (ps_raise hc tk h) fun D σ H h => by
  obtain ⟨φ, S, ρ, ok, env, r, e, q⟩ := h
  cases e
  have := q φ H σ (Ext.refl _ _ _) ok env
  rw [hv] at this
  exact this
/-- code that is not come to -/
def sNo : MS := fun _ _ => none
theorem x_no {st : Stmt} : XS X ec W st sNo := imS ps_never fun D σ H h => by
  obtain ⟨φ, S, ρ, ok, env, r, e, q⟩ := h
  cases e
end Rf
namespace Rf
open PySem PySem.Spec PyProof.Rows L2
variable {X : Cx} {ec : Str → Value} {W : WX}
/-! ### is not -/
def gIsNot : G2 := fun a b S => match gIs a b S with
  | some (.bl k, S') => some (.bl (!k), S')
  | _ => none
theorem op_isNotB : OpR X (compareOp .IsNot) (fun x y H Q => ∃ b, y = .bl b ∧ (∀ n, x ≠ .ty n) ∧ Q (.bl (!decide (x = .bl b))) H) := by
  intro pins s σ H x y v u Q I rx ry h
  obtain ⟨b, rfl, ht, q⟩ := h
  cases ry
  cases x with
  | bl c =>
    cases rx
    by_cases e : c = b
    · subst e
      exact wpAny_isNot_self rfl ⟨.bl false, H, I, rfl, by simpa using q⟩
    · exact wpAny_isNot_other rfl (fun z => e (Value.bool.inj z)) ⟨.bl true, H, I, rfl, by simpa [e] using q⟩
  | non => cases rx; exact wpAny_isNot_other rfl (fun z => nomatch z) ⟨.bl true, H, I, rfl, by simpa using q⟩
  | int i => obtain ⟨t, rfl⟩ := rx; exact wpAny_isNot_other rfl (fun z => nomatch z) ⟨.bl true, H, I, rfl, by simpa using q⟩
  | str i => obtain ⟨t, rfl⟩ := rx; exact wpAny_isNot_other rfl (fun z => nomatch z) ⟨.bl true, H, I, rfl, by simpa using q⟩
  | byt i => obtain ⟨t, rfl⟩ := rx; exact wpAny_isNot_other rfl (fun z => nomatch z) ⟨.bl true, H, I, rfl, by simpa using q⟩
  | flt i => obtain ⟨t, rfl⟩ := rx; exact wpAny_isNot_other rfl (fun z => nomatch z) ⟨.bl true, H, I, rfl, by simpa using q⟩
  | ref a => cases rx; exact wpAny_isNot_other rfl (fun z => nomatch z) ⟨.bl true, H, I, rfl, by simpa using q⟩
  | ty n => exact absurd rfl (ht n)
theorem opS_isnot : OpS X (compareOp .IsNot) gIsNot := ⟨_, op_notN.or op_isNotB, fun φ S H x y a b c S' ok ra rb e Q q => by
  cases rb with
  | non =>
    refine .inl ⟨rfl, ?_⟩
    cases ra <;> (cases e; exact q φ H _ (Ext.refl _ _ _) ok (.bl _))
  | bl k =>
    refine .inr ⟨k, rfl, ?_, ?_⟩
    · intro n z
      subst z
      cases ra
      cases e
    · cases ra <;> first
        | (cases e; refine q φ H _ (Ext.refl _ _ _) ok ?_; simp only [V.bl.injEq]; exact .bl _)
        | (cases e; refine q φ H _ (Ext.refl _ _ _) ok ?_; exact .bl _)
        | cases e
  | _ => cases e⟩
/-! ### x.bit_length() -/
def gBits : G1 := fun a S => match a with
  | .int i => some (.int ((Builtin.Int.intBits i : Nat) : Int), S)
  | _ => none
theorem x_bits {o : Expr} {m : M D} {apos pos : Pos} (ho : XE X ec W o m) (hbase : attributeBase o "bit_length" X.env (eval o X.env) = eval o X.env := by rfl) (hline : (apos.endLine == pos.line) = true := by rfl) : XE X ec W (.Call (.Attribute o "bit_length" apos) [] [] pos) (mUn gBits m) := imE (pe_bits ho hbase hline) fun σ H Q h => by
  obtain ⟨φ, S, ρ, c⟩ := Cf.start h
  refine rd_imp (c.bind (rel1 := Rel X.K) monoC_true) fun x H1 ⟨φ1, S1, a, ra, c1⟩ => ?_
  obtain ⟨r', e, q⟩ := c1.run
  cases a <;> first | cases e | skip
  cases ra
  exact ⟨_, rfl, q φ1 H1 _ (Ext.refl _ _ _) c1.ok (.int _)⟩
/-! ### tuples of the module -/
theorem rel_ints2 {K : PySem.W.Frag} {a : Addr} {dd : Option Addr} {i j : Int} {t u : Tok} {n : Nat} {sl : Array (Option Value)} (l : K.lookup a = some ⟨.type "tuple", dd, .seq #[.int i t, .int j u] n, sl⟩) : ∀ φ m H, Rel K φ m H (.ref a) (.kt [.int i, .int j]) := fun φ m H =>
  .kt (xs := [.int i, .int j]) ⟨_, _, n, l, rfl, rfl, (by show 2 ≤ sizeLine; decide), .cons ⟨t, rfl⟩ (.cons ⟨u, rfl⟩ .nil)⟩ (.cons (.int i) (.cons (.int j) .nil))
end Rf
namespace Rf
open PySem PySem.Spec PyProof.Rows L2
section
variable {X : Cx}
/-! ### texts repeated, texts to ints -/
theorem inv_tok {pins : List (Addr × Obj)} {σ : L2.St} {H : Hp} {s : Shared} {k : Nat} (h : Inv X pins σ H s) : Inv X pins σ H { heap := s.heap, gens := s.gens, drawn := s.drawn, toks := k, os := s.os } := by
  cases h
  constructor <;> assumption
theorem op_mul_str : OpR X (binaryOp .Mult) (fun x y H Q => ∃ a n, x = V.str a ∧ y = V.int n ∧ MulOk a n ∧ Q (V.str (Txt.mul a n)) H) := by
  intro pins s σ H x y v u Q inv rx ry h
  obtain ⟨a, n, rfl, rfl, ok, q⟩ := h
  obtain ⟨t, rfl⟩ := rx
  obtain ⟨t', rfl⟩ := ry
  exact SB.mul ok fun t k => ⟨V.str (Txt.mul a n), H, inv_tok inv, ⟨t, rfl⟩, q⟩
theorem mulok1 {a : Str} {n : Int} (h : a.length = 1) (hn : n.natAbs ≤ 1000) : MulOk a n := by
  refine ⟨?_, fun h1 h2 => ?_, fun h1 h2 => ?_⟩
  · rw [Bool.or_eq_false_iff]
    exact ⟨decide_eq_false (by omega), decide_eq_false (by omega)⟩
  · rw [h]
    have : (1 : Int) ≤ (2 ^ 63 - 1) / n := Int.le_ediv_of_mul_le (by omega) (by omega)
    omega
  · rw [h]
    unfold Builtin.Str.tooLong
    refine decide_eq_false ?_
    have : sizeLine = sizeLine := rfl
    have k : (1000 : Nat) < sizeLine := by decide
    omega
def gRep : G2 := fun a b S => match a, b with
  | .str x, .int n => if decide (x.length = 1) && decide (n.natAbs ≤ 1000) then some (.str (Txt.mul x n), S) else none
  | _, _ => none
theorem opS_rep : OpS X (binaryOp .Mult) gRep := by
  refine ⟨_, op_mul_str, fun φ S H x y a b d S' ok ra rb e Q q => ?_⟩
  unfold gRep at e
  split at e
  · split at e
    · rename_i i j h
      cases e
      cases ra
      cases rb
      rw [Bool.and_eq_true] at h
      exact ⟨i, j, rfl, rfl, mulok1 (of_decide_eq_true h.1) (of_decide_eq_true h.2), q φ H _ (Ext.refl _ _ _) ok (.str _)⟩
    · cases e
  · cases e
def gMulT : G2 := orG gMul gRep
theorem opS_mulT : OpS X (binaryOp .Mult) gMulT := opS_mul.or opS_rep
def gIntS : GN := fun as S => match as with
  | [.str a] => if a.length ≤ 640 then (intText? a).map fun n => (.int n, S) else none
  | _ => none
theorem callS_intS : CallS X (.type "int") gIntS := ⟨_, call_int_str, fun φ S H xs as c S' ok ra e Q q => by
  unfold gIntS at e
  split at e
  · rename_i a
    split at e
    · rename_i h
      cases hn : intText? a with
      | none => rw [hn] at e; cases e
      | some n =>
        rw [hn] at e
        cases e
        cases ra with
        | cons r t =>
          cases r
          cases t
          exact ⟨_, n, rfl, hn, h, q φ H _ (Ext.refl _ _ _) ok (.int _)⟩
    · cases e
  · cases e⟩
def gIntT : GN := fun as S => match gInt as S with
  | some z => some z
  | none => gIntS as S
theorem callS_intT : CallS X (.type "int") gIntT := callS_int.or callS_intS
/-- the ints of 1 and some 0s -/
theorem ten_text : ∀ n : Fin 40, ∃ m : Nat, intText? (Str.ofString "1" ++ Txt.mul (Str.ofString "0") (n.val : Int)) = some (m : Int) ∧ m < 2 ^ 140 ∧ (Str.ofString "1" ++ Txt.mul (Str.ofString "0") (n.val : Int)).length ≤ 640 := by
  intro n
  refine ⟨10 ^ n.val, ?_⟩
  revert n
  decide +kernel
end
end Rf
namespace Rf
open PySem PySem.Spec PyProof.Rows L2
/-- try, with one class -/
def sTry (b : MS) (x : Str) (h : MS) : MS := fun ρ S => match b ρ S with
  | some (.exc c ρ' S') => if c = x then h ρ' S' else none
  | r => r
theorem exm_self {K : PySem.W.Frag} {S : Addr} (h1 : PySem.W.subIn K (.ref S) (.type "BaseException") = some true) (h2 : PySem.W.isClsIn K S = true) (h3 : PySem.W.typeIn K (.ref S) = some (.type "type")) (h4 : PySem.W.subIn K (.ref S) (.ref S) = some true) :
    PySem.W.exmOne K (.ref S) (.ref S) = some true := by
  have e1 : (PySem.W.subIn K (.ref S) (.type "BaseException") == some true) = true := by rw [h1] <;> rfl
  have e2 : ((PySem.W.clsIn K S).isSome && PySem.W.typeIn K (.ref S) == some (.type "type")) = true := by
    have h2' : (PySem.W.clsIn K S).isSome = true := h2
    rw [h2', h3] <;> rfl
  show (if (PySem.W.subIn K (.ref S) (.type "BaseException") == some true) = true then (if ((PySem.W.clsIn K S).isSome && PySem.W.typeIn K (.ref S) == some (.type "type")) = true then PySem.W.subIn K (.ref S) (.ref S) else none) else none) = some true
  rw [if_pos e1, if_pos e2]
  exact h4
theorem x_try {X : Cx} {ec : Str → Value} {W : WX} {x : Str} {c : Value} {body suite : List Stmt} {b₀ : Stmt} {np pos pos' : Pos} {b h : MS} (hs : X.stack = X.env :: X.outer) (hf : X.env.frame = some X.env.locals) (hc : Names X x c) (tk : Takes X W) (hec : ec x = c)
    (hm : PySem.W.exmOne X.K c c = some true)
    (hb : ∀ (W' : WX) (pn : List (Addr × Obj)) (xe : Value → Shared → Prop), Takes (X.tr pn xe) W' → PassesOwn (model X.prog X.w) X.A X.env xe → XSs (X.tr pn xe) ec W' body b)
    (hh : ∀ (a : Addr) (oe : Obj) (cls : Value) (d : Option Addr) (pn : List (Addr × Obj)), Zc cls d oe → (∃ vs, oe.data = Data.fields vs) → XSs (X.suite a ((a, oe) :: pn)) ec W (b₀ :: suite) h) :
    XS X ec W (.Try body [.ExceptHandler (some (.Name x np)) none (b₀ :: suite) pos'] [] [] pos) (sTry b x h) := by
  refine imS (ps_try_only (tb := fun W' => rdS X.K ec W' b) (ts := fun _ _ _ => rdS X.K ec W h) (Wout := W) hs hf hc tk (fun W' pn xe t p => hb W' pn xe t p) (fun a oe cls d pn z v => hh a oe cls d pn z v)) fun D σ H q => ?_
  obtain ⟨φ, S, ρ, ok, env, r, e, k⟩ := q
  refine ⟨φ, S, ρ, ok, env, ?_⟩
  unfold sTry at e
  split at e
  · rename_i c1 ρ' S' e1
    split at e
    · rename_i hx
      subst hx
      refine ⟨_, e1, fun φ' H' σ' ex ok' env' => ⟨true, by rw [hec]; exact hm, fun _ a _ => ?_, fun z => nomatch z⟩⟩
      exact ⟨φ', S', ρ', ok', env', r, e, k.ext ex⟩
    · cases e
  · rename_i hn
    refine ⟨r, e, ?_⟩
    cases r with
    | exc c1 ρ' S' => exact absurd e (fun y => hn _ _ _ y)
    | nx ρ' S' => exact k
    | ret d S' => exact k
    | brk ρ' S' => exact k
    | cnt ρ' S' => exact k
end Rf
namespace Rf
open PySem PySem.Spec PyProof.Rows L2
theorem slot_ty_eq : Slot "type" (Str.ofString "__eq__") "object.__eq__" := TypeEq.slot_type_eq
theorem slot_ty_ne : Slot "type" (cmpInfo CmpOp.NotEq).snd.fst "object.__ne__" := by
  refine Slot.of (owner := "object") (n := "__ne__") ?_ F.cmpSplit_ne (by decide +kernel) (by decide +kernel) (Or.inl (by decide +kernel)) ?_ (by decide +kernel)
  · rw [typeLookup_type, builtinLookup_eq_fast]
    rfl
  · rw [isSubtype_type]
    rfl
theorem slot_ty_ne' : Slot "type" (cmpInfo CmpOp.NotEq).snd.snd "object.__ne__" := slot_ty_ne
theorem ty_ne_decline {M : Model} {A : Around} {E : Value → Shared → Prop} {s : Shared} {a b : Value} {T id id' : String} {k : Bool} {Q : Value → Shared → Prop} (ha : ∀ s' : Shared, s'.TypeIs a T) (hb : ∀ s' : Shared, s'.TypeIs b T) (h1 : Slot T (cmpInfo CmpOp.NotEq).snd.fst id) (h2 : Slot T (cmpInfo CmpOp.NotEq).snd.snd id') (hv : [a, b].any Value.onHeap = false) (hk : isSame a b = pure k)
    (hc : wpAny M A (call (Value.builtin id) [a, b]) (fun v s₁ => v = Value.notImplemented ∧ wpAny M A (call (Value.builtin id') [b, a]) (fun v s₂ => v = Value.notImplemented ∧ Q (Value.bool !k) s₂) E s₁) E s) : wpAny M A (richCompare CmpOp.NotEq a b) Q E s := by
  unfold richCompare
  refine wpAny_holding ?_
  refine wpAny_bind (wpAny_cRoomFor_or (Or.inl hv) ?_)
  rw [Shared.TypeIs.oneThing_none (ha s)]
  dsimp only
  refine wpAny_bind (wpAny_typeOf (ha s) ?_)
  refine wpAny_bind (wpAny_typeOf (hb s) ?_)
  rw [if_neg (by simp)]
  refine wpAny_bind (wpAny_pure ?_)
  rw [if_neg (by simp)]
  refine wpAny_bind (wpAny_tryCompare_declines (ha s) h1 (wpAny_mono hc (fun v s₁ h₁ => ⟨h₁.1, ?_⟩) fun _ _ h => h))
  rw [if_pos (by rfl : (!false) = true)]
  refine wpAny_bind (wpAny_tryCompare_declines (hb s₁) h2 (wpAny_mono h₁.2 (fun v s₂ h₂ => ⟨h₂.1, ?_⟩) fun _ _ h => h))
  exact wpAny_bind (wpAny_rule (wpAny_bind (wpAny_of_eq hk (wpAny_pure h₂.2))))
/-- object.__ne__ of two classes -/
theorem ty_ne_entry_same {prog : Program} {w : World} {A : Around} {E : Value → Shared → Prop} {s : Shared} {X : String} {Q : PySem.Fin → Shared → Prop} (hX : ∀ s' : Shared, s'.TypeIs (Value.type X) "type") (hq : Q (PySem.Fin.done (Flow.ret (Value.bool false))) s) :
    wpAny (model prog w) A (Builtin.«object.__ne__» { pos := [Value.type X, Value.type X] }) Q E s := by
  unfold Builtin.«object.__ne__»
  refine wpAny_bind ?_
  unfold slotArgs
  refine wpAny_ite_false rfl (wpAny_ite_false rfl (wpAny_pure ?_))
  dsimp only
  refine wpAny_bind (wpAny_cRoomFor_or (.inl rfl) ?_)
  refine wpAny_bind (wpAny_callSpecialIfBound?_slot (hX s) slot_ty_eq (call_gives slot_ty_eq (hX s) F.entry_object_eq (F.args_object_eq_2 _ _) (TypeEq.object_eq_same rfl (by rw [beq_self_eq_true])) ?_))
  show wpAny _ _ _ _ _ _
  dsimp only
  refine wpAny_bind ?_
  exact wpAny_pure (wpAny_pure hq)
theorem ty_ne_entry_other {prog : Program} {w : World} {A : Around} {E : Value → Shared → Prop} {s : Shared} {X Y : String} {Q : PySem.Fin → Shared → Prop} (hX : ∀ s' : Shared, s'.TypeIs (Value.type X) "type") (hne : (Value.type X == Value.type Y) = false) (hq : Q (PySem.Fin.done (Flow.ret Value.notImplemented)) s) :
    wpAny (model prog w) A (Builtin.«object.__ne__» { pos := [Value.type X, Value.type Y] }) Q E s := by
  unfold Builtin.«object.__ne__»
  refine wpAny_bind ?_
  unfold slotArgs
  refine wpAny_ite_false rfl (wpAny_ite_false rfl (wpAny_pure ?_))
  dsimp only
  refine wpAny_bind (wpAny_cRoomFor_or (.inl rfl) ?_)
  refine wpAny_bind (wpAny_callSpecialIfBound?_slot (hX s) slot_ty_eq (call_gives slot_ty_eq (hX s) F.entry_object_eq (F.args_object_eq_2 _ _) (TypeEq.object_eq_other rfl hne) ?_))
  show wpAny _ _ _ _ _ _
  dsimp only
  exact wpAny_pure hq
theorem ty_ne_call_same {prog : Program} {w : World} {A : Around} {E : Value → Shared → Prop} {s : Shared} {X : String} {Q : Value → Shared → Prop} (hX : ∀ s' : Shared, s'.TypeIs (Value.type X) "type") (hq : Q (Value.bool false) s) :
    wpAny (model prog w) A (call (Value.builtin "object.__ne__") [.type X, .type X]) Q E s :=
  wpAny_call (codeAny_call_builtin slot_ty_ne.plain F.entry_object_ne (slot_ty_ne.check _ _ _ _ _ _ _ _ (hX s) (F.args_object_ne_2 _ _) (ty_ne_entry_same hX hq)))
theorem ty_ne_call_other {prog : Program} {w : World} {A : Around} {E : Value → Shared → Prop} {s : Shared} {X Y : String} {Q : Value → Shared → Prop} (hX : ∀ s' : Shared, s'.TypeIs (Value.type X) "type") (hne : (Value.type X == Value.type Y) = false) (hq : Q Value.notImplemented s) :
    wpAny (model prog w) A (call (Value.builtin "object.__ne__") [.type X, .type Y]) Q E s :=
  wpAny_call (codeAny_call_builtin slot_ty_ne.plain F.entry_object_ne (slot_ty_ne.check _ _ _ _ _ _ _ _ (hX s) (F.args_object_ne_2 _ _) (ty_ne_entry_other hX hne hq)))
theorem ty_ne_same {prog : Program} {w : World} {A : Around} {E : Value → Shared → Prop} {s : Shared} {Q : Value → Shared → Prop} {X : String} (hX : ∀ s' : Shared, s'.TypeIs (Value.type X) "type") (h : Q (Value.bool false) s) : wpAny (model prog w) A (compareOp CmpOp.NotEq (Value.type X) (Value.type X)) Q E s :=
  W.cmp_ofNotEq (wpAny_richCompare_same (hX s) (hX s) slot_ty_ne (by refine ty_ne_call_same hX ?_; exact ⟨fun e => (by cases e), h⟩) rfl)
theorem ty_ne_other {prog : Program} {w : World} {A : Around} {E : Value → Shared → Prop} {s : Shared} {Q : Value → Shared → Prop} {X Y : String} (hX : ∀ s' : Shared, s'.TypeIs (Value.type X) "type") (hY : ∀ s' : Shared, s'.TypeIs (Value.type Y) "type") (hne : (Value.type X == Value.type Y) = false) (h : Q (Value.bool true) s) : wpAny (model prog w) A (compareOp CmpOp.NotEq (Value.type X) (Value.type Y)) Q E s := by
  have hne' : (Value.type Y == Value.type X) = false := by
    rw [Bool.eq_false_iff] at hne ⊢
    intro e
    exact hne (by rw [beq_iff_eq] at e ⊢; exact e.symm)
  refine W.cmp_ofNotEq (ty_ne_decline (k := false) hX hY slot_ty_ne slot_ty_ne' rfl ?_ ?_)
  · rw [isSame_plain rfl, hne]
  · refine ty_ne_call_other hX hne ?_
    refine ⟨rfl, ?_⟩
    refine ty_ne_call_other hY hne' ?_
    exact ⟨rfl, h⟩
/-! ### classes as values -/
def tyK (n : String) : Bool := decide (n ∈ ["int", "bool", "str", "tuple", "list", "dict", "NoneType"])
theorem tyK_is {n : String} (h : tyK n = true) (s' : Shared) : s'.TypeIs (Value.type n) "type" := by
  have h := of_decide_eq_true h
  simp only [List.mem_cons, List.not_mem_nil, or_false] at h
  rcases h with rfl | rfl | rfl | rfl | rfl | rfl | rfl <;> rfl
section
variable {X : Cx} {ec : Str → Value} {W : WX}
theorem op_ne_ty : OpR X (compareOp .NotEq) (fun x y H Q => ∃ m n, x = V.ty m ∧ y = V.ty n ∧ tyK m = true ∧ tyK n = true ∧ Q (V.bl (!decide (m = n))) H) := by
  intro pins s σ H x y v u Q inv rx ry h
  obtain ⟨m, n, rfl, rfl, hm, hn, q⟩ := h
  cases (show v = Value.type m from rx)
  cases (show u = Value.type n from ry)
  by_cases e : m = n
  · subst e
    refine ty_ne_same (tyK_is hm) ?_
    rw [decide_eq_true rfl] at q
    exact ⟨V.bl false, H, inv, rfl, q⟩
  · refine ty_ne_other (tyK_is hm) (tyK_is hn) ?_ ?_
    · rw [Bool.eq_false_iff]
      intro k
      rw [beq_iff_eq] at k
      cases k
      exact e rfl
    · rw [decide_eq_false e] at q
      exact ⟨V.bl true, H, inv, rfl, q⟩
def gNeTy : G2 := fun a b S => match a, b with
  | .ty m, .ty n => if tyK m && tyK n then some (.bl (!decide (m = n)), S) else none
  | _, _ => none
theorem opS_neTy : OpS X (compareOp .NotEq) gNeTy := by
  refine ⟨_, op_ne_ty, fun φ S H x y a b d S' ok ra rb e Q q => ?_⟩
  unfold gNeTy at e
  split at e
  · split at e
    · rename_i i j h
      cases e
      cases ra
      cases rb
      rw [Bool.and_eq_true] at h
      exact ⟨i, j, rfl, rfl, h.1, h.2, q φ H _ (Ext.refl _ _ _) ok (.bl _)⟩
    · cases e
  · cases e
theorem ty_dT {pins : List (Addr × Obj)} {σ : L2.St} {H : Hp} {s : Shared} {a : Addr} {kvs : List (List L2.Key × V)} (I : Inv X pins σ H s) (h : H a = some (.dT kvs)) : s.TypeIs (Value.ref a) "dict" := by
  have o : L2.ObjOk X.prog X.w H s.heap a (.dT kvs) := I.hok a _ h
  rw [L2.ObjOk.eq_def] at o
  dsimp only at o
  obtain ⟨_, _, xs, _, o, es, ep, h1, h2, _⟩ := o
  exact ⟨o, h1, h2.1⟩
/-- type(x) -/
theorem call_ty : CallR X (.type "type") (fun xs H Q => ∃ x T, xs = [x] ∧ (TyB X.K H x T ∨ (T = "dict" ∧ ∃ a kvs, x = V.ref a ∧ H a = some (.dT kvs))) ∧ Q (V.ty T) H) := by
  intro pins s σ H xs us Q I r h
  obtain ⟨x, T, rfl, t, q⟩ := h
  obtain ⟨u, rfl, rx⟩ := vals1 r
  rcases t with t | ⟨rfl, a, kvs, rfl, t⟩
  · exact call_type_of (TyB.is I rx t) (TyB.nb t) ⟨V.ty T, H, I, rfl, q⟩
  · cases (show u = Value.ref a from rx)
    exact call_type_of (ty_dT I t) (by decide) ⟨V.ty "dict", H, I, rfl, q⟩
def gType : GN := fun as S => match as with
  | [a] => (tyD S a).map fun n => (.ty n, S)
  | _ => none
theorem tyb_rel {φ : Nat → Addr} {S : Sto} {H : Hp} {v : V} {d : D} {n : String} (ok : Ok X.K φ S H) (r : Rel X.K φ S.length H v d) (h : tyD S d = some n) : TyB X.K H v n ∨ (n = "dict" ∧ ∃ a kvs, v = V.ref a ∧ H a = some (.dT kvs)) := by
  cases r with
  | non => cases h; exact .inl .non
  | bl b => cases h; exact .inl (.bl b)
  | int b => cases h; exact .inl (.int b)
  | str b => cases h; exact .inl (.str b)
  | ty b => cases h
  | tup h1 r1 => cases h; exact .inl (.tup (.inl (.inl h1)))
  | kt h1 r1 => cases h; exact .inl (.tup (.inr h1))
  | fro h1 r1 => cases h; exact .inl (.lst h1.sq)
  | @ref i hi =>
    unfold tyD at h
    dsimp only at h
    obtain ⟨ho, e, ro⟩ := ok.obj i _ (List.getElem?_eq_getElem hi)
    rw [List.getElem?_eq_getElem hi] at h
    generalize S[i] = o at h ro
    cases ro with
    | lst _ => cases h; exact .inl (.lst (SqL.of e))
    | dct _ _ => cases h; exact .inr ⟨rfl, _, _, rfl, e⟩
    | dcl _ _ => cases h
theorem callS_type : CallS X (.type "type") gType := ⟨_, call_ty, fun φ S H xs as c S' ok ra e Q q => by
  unfold gType at e
  split at e
  · rename_i a
    cases h1 : tyD S a with
    | none => rw [h1] at e; cases e
    | some n =>
      rw [h1] at e
      cases e
      cases ra with
      | cons r t =>
        cases t
        exact ⟨_, n, rfl, tyb_rel ok r h1, q φ H _ (Ext.refl _ _ _) ok (.ty n)⟩
  · cases e⟩
/-! ### slices of lists, empty dicts -/
def cutD (xs : List D) (lo hi : Option Int) : List D := List.take (HT.sIx xs.length xs.length hi - HT.sIx xs.length 0 lo) (List.drop (HT.sIx xs.length 0 lo) xs)
def lstOf (S : Sto) : D → Option (List D)
  | .fro xs => some xs
  | .ref i => match S[i]? with
    | some (.lst xs) => some xs
    | _ => none
  | _ => none
theorem lst_rel {φ : Nat → Addr} {S : Sto} {H : Hp} {v : V} {d : D} {ds : List D} (ok : Ok X.K φ S H) (r : Rel X.K φ S.length H v d) (h : lstOf S d = some ds) : ∃ p xs, v = .ref p ∧ SqL X.K H p xs ∧ Rels X.K φ S.length H xs ds := by
  cases r with
  | fro h1 r1 => cases h; exact ⟨_, _, rfl, h1.sq, r1⟩
  | @ref i hi =>
    unfold lstOf at h
    dsimp only at h
    obtain ⟨ho, e, ro⟩ := ok.obj i _ (List.getElem?_eq_getElem hi)
    rw [List.getElem?_eq_getElem hi] at h
    generalize S[i] = o at h ro
    cases ro with
    | lst r1 => cases h; exact ⟨_, _, rfl, SqL.of e, r1⟩
    | dct _ _ => cases h
    | dcl _ _ => cases h
  | _ => cases h
def mSl (m ml mh : M D) : M D := mB m fun a => mB ml fun l => match l with
  | .int i => mB mh fun h _ S => match h with
    | .int j => match lstOf S a with
      | some xs => some (.val (.ref S.length) (S ++ [.lst (cutD xs (some i) (some j))]))
      | none => none
    | _ => none
  | _ => fun _ _ => none
theorem x_sl {e lo hi : PySem.Expr} {m ml mh : M D} {pos p2 : Pos} (he : XE X ec W e m) (hl : XE X ec W lo ml) (hh : XE X ec W hi mh) : XE X ec W (.Subscript e (.Slice (some lo) (some hi) none p2) pos) (mSl m ml mh) := imE (pe_slice sl_list he (po_some hl) (po_some hh)) fun σ H Q h => by
  obtain ⟨φ, S, ρ, c⟩ := Cf.start h
  refine rd_imp (c.bind (rel1 := Rel X.K) monoC_true) fun x H1 ⟨φ1, S1, a, ra, c1⟩ => ?_
  refine rd_imp ((c1.carry ra).bind (rel1 := Rel X.K) monoC_rel) fun y H2 ⟨φ2, S2, b, rb, c2⟩ => ?_
  cases rb with
  | int i =>
    refine ⟨i, rfl, ?_⟩
    refine rd_imp (c2.bind (rel1 := Rel X.K) monoC_rel) fun z H3 ⟨φ3, S3, b3, rb3, c3⟩ => ?_
    obtain ⟨r', e, q⟩ := c3.run
    cases rb3 with
    | int j =>
      refine ⟨j, rfl, ?_⟩
      dsimp only at e
      split at e
      · rename_i ds hds
        cases e
        obtain ⟨p, xs, rfl, h5, r5⟩ := lst_rel c3.ok c3.car hds
        refine ⟨p, xs, rfl, h5, fun l hl => q _ _ _ (ext_new' hl) (c3.ok.new hl (.lst ?_)) rel_new⟩
        unfold cutV cutD
        rw [r5.len]
        exact (r5.drop _).take _
      · cases e
    | _ => cases e
  | _ =>
    obtain ⟨r', e, q⟩ := c2.run
    cases e
def mDct0 : M D := fun _ S => some (.val (.ref S.length) (S ++ [.dct []]))
theorem x_dct0 {pos : Pos} : XE X ec W (.Dict [] [] pos) mDct0 := imE pe_dnewT fun σ H Q h => by
  obtain ⟨φ, S, ρ, ok, env, r, e, q⟩ := h
  cases e
  exact fun p hp => q _ _ _ (ext_new' hp) (ok.new hp (.dct rfl .nil)) rel_new
/-- a call without arguments, of a def that raises nothing -/
def mCall0 (F : List D → Sto → Option (R D)) : M D := fun _ S => match F [] S with
  | some (.val d S') => some (.val d S')
  | _ => none
theorem never_passes {E : XK} (h : ∀ c d H, ¬ E c d H) : Passes (L2.CX X.prog X.w) X E := fun pins σ H s e s' I c => by
  obtain ⟨_, _, _, _, _, _, _, _, _, _, _, _, z⟩ := c
  exact absurd z (h _ _ _)
theorem x_call0 {x : Str} {p pos : Pos} {k : Nat} {f : Addr} {fd : FuncData} {F : List D → Sto → Option (R D)}
    (G : FnOk X.prog X.w X.K X.mg X.base (L2.CX X.prog X.w) k f fd [] (spF X.K ec 0 F)) (hr : Room k X.A) (hm : X.mg x = some (.ref f)) (hk : PySem.W.keepIn X.K (.ref f) = true) (hb : Binds X.K fd [] [])
    (hg : Gl X x := by rfl) (hdb : (x == ("__debug__" : Str)) = false := by decide) : XE X ec W (.Call (.Name x p) [] [] pos) (mCall0 F) := by
  refine imE (pe_call0 (E := fun _ _ _ => False) (dvs := []) G hr hg hm hk hb .nil (never_passes fun _ _ _ h => h) hdb) fun σ H Q h => ?_
  obtain ⟨φ, S, ρ, ok, env, r, e, q⟩ := h
  unfold mCall0 at e
  split at e
  · rename_i d S' e1
    cases e
    exact ⟨φ, S, [], ok, .nil, rfl, .val d S', e1, q⟩
  · cases e
end
end Rf
namespace Rf
open PySem PySem.Spec PyProof.Rows L2
/-! ### == of tuples and lists, by what is in them -/
def pdMap (f : D → Option PyData) : List D → Option (List PyData)
  | [] => some []
  | x :: xs => (f x).bind fun p => (pdMap f xs).map fun ps => p :: ps
def pdOf (S : Sto) : Nat → D → Option PyData
  | 0, _ => none
  | _ + 1, .non => some .none
  | _ + 1, .bl b => some (.bool b)
  | _ + 1, .int i => some (.int i)
  | _ + 1, .str x => some (.str x)
  | k + 1, .tup xs => (pdMap (pdOf S k) xs).map .tuple
  | k + 1, .kt xs => (pdMap (pdOf S k) xs).map .tuple
  | k + 1, .fro xs => (pdMap (pdOf S k) xs).map .list
  | k + 1, .ref i => match S[i]? with
    | some (.lst xs) => (pdMap (pdOf S k) xs).map .list
    | _ => none
  | _ + 1, .ty _ => none
section
variable {X : Cx}
theorem pdMap_rel {φ : Nat → Addr} {S : Sto} {H : Hp} {f : D → Option PyData} (h : ∀ d p v, f d = some p → Rel X.K φ S.length H v d → Dp X.K H v p) : ∀ (ds : List D) (ps : List PyData) (vs : List V), pdMap f ds = some ps → Rels X.K φ S.length H vs ds → DpAll X.K H vs ps
  | [], ps, vs, e, r => by
    cases e
    cases r
    exact .nil
  | d :: ds, ps, vs, e, r => by
    cases r with
    | cons r1 r2 =>
      unfold pdMap at e
      cases h1 : f d with
      | none => rw [h1] at e; cases e
      | some p =>
        rw [h1, Option.bind_some] at e
        cases h2 : pdMap f ds with
        | none => rw [h2] at e; cases e
        | some qs =>
          rw [h2] at e
          cases e
          exact .cons (h d p _ h1 r1) (pdMap_rel h ds qs _ h2 r2)
theorem pd_rel {φ : Nat → Addr} {S : Sto} {H : Hp} (ok : Ok X.K φ S H) : ∀ (k : Nat) (d : D) (p : PyData) (v : V), pdOf S k d = some p → Rel X.K φ S.length H v d → Dp X.K H v p
  | 0, d, p, v, e, r => by unfold pdOf at e; cases e
  | k + 1, d, p, v, e, r => by
    cases r with
    | non => cases e; exact .non
    | bl b => cases e; exact .bl b
    | int i => cases e; exact .int i
    | str x => cases e; exact .str x
    | ty x => cases e
    | @tup a xs ds h1 r1 =>
      unfold pdOf at e
      cases h2 : pdMap (pdOf S k) ds with
      | none => rw [h2] at e; cases e
      | some qs => rw [h2] at e; cases e; exact .tup (.inl (.inl h1)) (pdMap_rel (pd_rel ok k) _ _ _ h2 r1)
    | @kt a xs ds h1 r1 =>
      unfold pdOf at e
      cases h2 : pdMap (pdOf S k) ds with
      | none => rw [h2] at e; cases e
      | some qs => rw [h2] at e; cases e; exact .tup (.inr h1) (pdMap_rel (pd_rel ok k) _ _ _ h2 r1)
    | @fro a xs ds h1 r1 =>
      unfold pdOf at e
      cases h2 : pdMap (pdOf S k) ds with
      | none => rw [h2] at e; cases e
      | some qs => rw [h2] at e; cases e; exact .lst h1.sq (pdMap_rel (pd_rel ok k) _ _ _ h2 r1)
    | @ref i hi =>
      unfold pdOf at e
      obtain ⟨ho, eo, ro⟩ := ok.obj i _ (List.getElem?_eq_getElem hi)
      rw [List.getElem?_eq_getElem hi] at e
      generalize S[i] = o at e ro
      cases ro with
      | @lst xs ds r1 =>
        dsimp only at e
        cases h2 : pdMap (pdOf S k) ds with
        | none => rw [h2] at e; cases e
        | some qs => rw [h2] at e; cases e; exact .lst (SqL.of eo) (pdMap_rel (pd_rel ok k) _ _ _ h2 r1)
      | dct _ _ => cases e
      | dcl _ _ => cases e
def gEqD (neg : Bool) : G2 := fun a b S => match pdOf S 60 a, pdOf S 60 b with
  | some p, some q => if SeqAt.shaped p && SeqAt.shaped q then some (.bl (if neg then !PyData.eqv p q else PyData.eqv p q), S) else none
  | _, _ => none
theorem opS_eqD (hu : X.A.units + 64 < cLine) : OpS X (compareOp .Eq) (gEqD false) := by
  refine ⟨_, op_eqD hu, fun φ S H x y a b d S' ok ra rb e Q q => ?_⟩
  unfold gEqD at e
  split at e
  · rename_i p r h1 h2
    split at e
    · rename_i h
      cases e
      rw [Bool.and_eq_true] at h
      exact ⟨p, r, pd_rel ok _ _ _ _ h1 ra, pd_rel ok _ _ _ _ h2 rb, h.1, h.2, q φ H _ (Ext.refl _ _ _) ok (.bl _)⟩
    · cases e
  · cases e
theorem opS_neD (hu : X.A.units + 64 < cLine) : OpS X (compareOp .NotEq) (gEqD true) := by
  refine ⟨_, op_neD hu, fun φ S H x y a b d S' ok ra rb e Q q => ?_⟩
  unfold gEqD at e
  split at e
  · rename_i p r h1 h2
    split at e
    · rename_i h
      cases e
      rw [Bool.and_eq_true] at h
      exact ⟨p, r, pd_rel ok _ _ _ _ h1 ra, pd_rel ok _ _ _ _ h2 rb, h.1, h.2, q φ H _ (Ext.refl _ _ _) ok (.bl _)⟩
    · cases e
  · cases e
end
end Rf
namespace Rf
open PySem PySem.Spec PyProof.Rows L2
/-! ### a dict == a tuple -/
theorem isInst {M : Model} {A : Around} {E : Value → Shared → Prop} {s : Shared} {b : Addr} {ob : Obj} {T : String} {k : Bool} {Q : Bool → Shared → Prop} (hb : s.heap.get? b = some ob) (f1 : isSubtype ob.cls (Value.type T) = pure k) (hq : Q k s) : wpAny M A (isInstance (Value.ref b) (Value.type T)) Q E s := by
  unfold isInstance
  refine wpAny_bind ?_
  exact id (wpAny_bind (wpAny_loadPart' hb (wpAny_pure (wpAny_of_eq f1 hq))))
theorem tuple_eq_dict {prog : Program} {w : World} {A : Around} {E : Value → Shared → Prop} {s : Shared} {l b : Addr} {ob : Obj} {Q : PySem.Fin → Shared → Prop} (hb : s.heap.get? b = some ob) (hc : ob.cls = Value.type "dict") (hq : Q (PySem.Fin.done (Flow.ret Value.notImplemented)) s) :
    wpAny (model prog w) A (Builtin.«tuple.__eq__» { pos := [Value.ref l, Value.ref b] }) Q E s := by
  have f1 : isSubtype ob.cls (Value.type "tuple") = pure false := by rw [hc]; exact F.sub_dict_tuple
  refine wpAny_bind ?_
  unfold slotArgs
  refine wpAny_ite_false rfl (wpAny_ite_false rfl (wpAny_pure ?_))
  dsimp only
  refine wpAny_bind (isInst hb f1 ?_)
  exact wpAny_ite_true rfl (wpAny_pure hq)
theorem dict_eq_tuple {prog : Program} {w : World} {A : Around} {E : Value → Shared → Prop} {s : Shared} {l b : Addr} {ol ob : Obj} {Q : PySem.Fin → Shared → Prop} (hl : s.heap.get? l = some ol) (hlc : ol.cls = Value.type "dict") (hb : s.heap.get? b = some ob) (hc : ob.cls = Value.type "tuple") (hq : Q (PySem.Fin.done (Flow.ret Value.notImplemented)) s) :
    wpAny (model prog w) A (Builtin.«dict.__eq__» { pos := [Value.ref l, Value.ref b] }) Q E s := by
  have f1 : isSubtype ob.cls (Value.type "dict") = pure false := by rw [hc]; exact F.sub_tuple_dict
  refine wpAny_bind ?_
  unfold Builtin.Dict.dictSlotArgs
  refine wpAny_bind ?_
  unfold Builtin.Dict.notOrdered
  refine wpAny_ite_false (by decide) (wpAny_pure ?_)
  refine wpAny_bind ?_
  unfold slotArgs
  refine wpAny_ite_false rfl (wpAny_ite_false rfl (wpAny_pure ?_))
  dsimp only
  refine wpAny_pure ?_
  dsimp only
  refine wpAny_bind (isInst hb f1 ?_)
  refine wpAny_ite_true rfl ?_
  exact wpAny_bind (wpAny_rule (wpAny_pure hq))
theorem isSame_dt {M : Model} {A : Around} {E : Value → Shared → Prop} {s : Shared} {a b : Addr} {oa ob : Obj} {Q : Bool → Shared → Prop} (ha : s.heap.get? a = some oa) (hac : oa.cls = Value.type "dict") (hb : s.heap.get? b = some ob) (hbc : ob.cls = Value.type "tuple") (hq : Q false s) : wpAny M A (isSame (Value.ref a) (Value.ref b)) Q E s := by
  have hne : (a == b) = false := by
    rw [Bool.eq_false_iff]
    intro e
    have e : a = b := by simpa using e
    subst e
    rw [ha] at hb
    cases hb
    rw [hac] at hbc
    exact absurd hbc (by decide)
  unfold isSame
  dsimp only
  refine wpAny_ite_false (by rw [hne]; rfl) ?_
  refine wpAny_bind (wpAny_loadPart' ha ?_)
  refine wpAny_bind (wpAny_loadPart' hb ?_)
  rw [hac, hbc]
  exact wpAny_pure hq
/-- a dict and a tuple are not the same -/
theorem eq_dict_tuple {prog : Program} {w : World} {A : Around} {E : Value → Shared → Prop} {s : Shared} {a b : Addr} {oa ob : Obj} {Q : Value → Shared → Prop} (hu : A.units < cLine) (ha : s.heap.get? a = some oa) (hac : oa.cls = Value.type "dict") (hb : s.heap.get? b = some ob) (hbc : ob.cls = Value.type "tuple") (hq : Q (Value.bool false) s) :
    wpAny (model prog w) A (compareOp CmpOp.Eq (Value.ref a) (Value.ref b)) Q E s := by
  have ta : s.TypeIs (Value.ref a) "dict" := ⟨oa, ha, hac⟩
  have tb : s.TypeIs (Value.ref b) "tuple" := ⟨ob, hb, hbc⟩
  show wpAny (model prog w) A (richCompare CmpOp.Eq (Value.ref a) (Value.ref b)) Q E s
  unfold richCompare
  refine wpAny_holding ?_
  refine wpAny_bind (wpAny_cRoomFor_or (Or.inr hu) ?_)
  rw [Shared.TypeIs.oneThing_none ta]
  dsimp only
  refine wpAny_bind (wpAny_typeOf ta ?_)
  refine wpAny_bind (wpAny_typeOf tb ?_)
  rw [if_pos (by decide)]
  refine wpAny_bind (wpAny_of_eq F.sub_tuple_dict ?_)
  rw [if_neg (by simp)]
  refine wpAny_bind (wpAny_tryCompare_declines ta F.slot_dict_eq ?_)
  refine wpAny_call (codeAny_call_builtin F.slot_dict_eq.plain F.entry_dict_eq (F.slot_dict_eq.check _ _ _ _ _ _ _ _ ta (F.args_dict_eq_2 _ _) (dict_eq_tuple ha hac hb hbc ?_)))
  refine ⟨rfl, ?_⟩
  rw [if_pos (by rfl : (!false) = true)]
  refine wpAny_bind (wpAny_tryCompare_declines tb F.slot_tuple_eq_refl ?_)
  refine wpAny_call (codeAny_call_builtin F.slot_tuple_eq_refl.plain F.entry_tuple_eq (F.slot_tuple_eq_refl.check _ _ _ _ _ _ _ _ tb (F.args_tuple_eq_2 _ _) (tuple_eq_dict ha hac ?_)))
  refine ⟨rfl, ?_⟩
  exact wpAny_bind (wpAny_rule (wpAny_bind (isSame_dt ha hac hb hbc (wpAny_pure hq))))
section
variable {X : Cx}
theorem op_eq_dt (hu : X.A.units < cLine) : OpR X (compareOp .Eq) (fun x y H Q => ∃ a kvs b, x = V.ref a ∧ y = V.ref b ∧ H a = some (.dT kvs) ∧ TyB X.K H (V.ref b) "tuple" ∧ Q (V.bl false) H) := by
  intro pins s σ H x y v u Q inv rx ry h
  obtain ⟨a, kvs, b, rfl, rfl, ha, tb, q⟩ := h
  have t2 := TyB.is inv ry tb
  cases (show v = Value.ref a from rx)
  cases (show u = Value.ref b from ry)
  obtain ⟨oa, h1, h2⟩ := ty_dT inv ha
  obtain ⟨ob, h3, h4⟩ := t2
  exact eq_dict_tuple hu h1 h2 h3 h4 ⟨V.bl false, H, inv, rfl, q⟩
def gEqDT : G2 := fun a b S => match a, b with
  | .ref i, .tup _ => match S[i]? with
    | some (.dct _) => some (.bl false, S)
    | _ => none
  | _, _ => none
theorem opS_eqDT (hu : X.A.units < cLine) : OpS X (compareOp .Eq) gEqDT := by
  refine ⟨_, op_eq_dt hu, fun φ S H x y a b d S' ok ra rb e Q q => ?_⟩
  unfold gEqDT at e
  split at e
  · rename_i i xs
    split at e
    · rename_i kvs h
      cases e
      cases ra with
      | ref hi =>
        obtain ⟨ho, eo, ro⟩ := ok.obj i _ h
        cases ro with
        | dct _ _ =>
          cases rb with
          | tup h1 r1 => exact ⟨_, _, _, rfl, rfl, eo, .tup (.inl (.inl h1)), q φ H _ (Ext.refl _ _ _) ok (.bl _)⟩
    · cases e
  · cases e
def gEqX : G2 := orG (gEqD false) gEqDT
theorem opS_eqX {k : Nat} (hr : Room k X.A) : OpS X (compareOp .Eq) gEqX := (opS_eqD hr.units).or (opS_eqDT hr.units0)
end
end Rf
namespace Rf
open PySem PySem.Spec PyProof.Rows L2
section
variable {X : Cx} {ec : Str → Value} {W : WX}
/-! ### xs[:b] and xs[a:] of lists -/
def mSlH (m mh : M D) : M D := mB m fun a => mB mh fun h _ S => match h with
  | .int j => match lstOf S a with
    | some xs => some (.val (.ref S.length) (S ++ [.lst (Rf.cutD xs none (some j))]))
    | none => none
  | _ => none
def mSlL (m ml : M D) : M D := mB m fun a => mB ml fun h _ S => match h with
  | .int j => match lstOf S a with
    | some xs => some (.val (.ref S.length) (S ++ [.lst (Rf.cutD xs (some j) none)]))
    | none => none
  | _ => none
theorem x_slH {e hi : PySem.Expr} {m mh : M D} {pos p2 : Pos} (he : XE X ec W e m) (hh : XE X ec W hi mh) : XE X ec W (.Subscript e (.Slice none (some hi) none p2) pos) (mSlH m mh) := imE (pe_slice sl_list he po_none (po_some hh)) fun σ H Q h => by
  obtain ⟨φ, S, ρ, c⟩ := Cf.start h
  refine rd_imp (c.bind (rel1 := Rel X.K) monoC_true) fun x H1 ⟨φ1, S1, a, ra, c1⟩ => ?_
  refine rd_imp ((c1.carry ra).bind (rel1 := Rel X.K) monoC_rel) fun z H3 ⟨φ3, S3, b3, rb3, c3⟩ => ?_
  obtain ⟨r', e, q⟩ := c3.run
  cases rb3 with
  | int j =>
    refine ⟨j, rfl, ?_⟩
    dsimp only at e
    split at e
    · rename_i ds hds
      cases e
      obtain ⟨p, xs, rfl, h5, r5⟩ := lst_rel c3.ok c3.car hds
      refine ⟨p, xs, rfl, h5, fun l hl => q _ _ _ (ext_new' hl) (c3.ok.new hl (.lst ?_)) rel_new⟩
      unfold cutV Rf.cutD
      rw [r5.len]
      exact (r5.drop _).take _
    · cases e
  | _ => cases e
theorem x_slL {e lo : PySem.Expr} {m ml : M D} {pos p2 : Pos} (he : XE X ec W e m) (hl : XE X ec W lo ml) : XE X ec W (.Subscript e (.Slice (some lo) none none p2) pos) (mSlL m ml) := imE (pe_slice sl_list he (po_some hl) po_none) fun σ H Q h => by
  obtain ⟨φ, S, ρ, c⟩ := Cf.start h
  refine rd_imp (c.bind (rel1 := Rel X.K) monoC_true) fun x H1 ⟨φ1, S1, a, ra, c1⟩ => ?_
  refine rd_imp ((c1.carry ra).bind (rel1 := Rel X.K) monoC_rel) fun z H3 ⟨φ3, S3, b3, rb3, c3⟩ => ?_
  obtain ⟨r', e, q⟩ := c3.run
  cases rb3 with
  | int j =>
    refine ⟨j, rfl, ?_⟩
    dsimp only at e
    split at e
    · rename_i ds hds
      cases e
      obtain ⟨p, xs, rfl, h5, r5⟩ := lst_rel c3.ok c3.car hds
      refine ⟨p, xs, rfl, h5, fun l hl => q _ _ _ (ext_new' hl) (c3.ok.new hl (.lst ?_)) rel_new⟩
      unfold cutV Rf.cutD
      rw [r5.len]
      exact (r5.drop _).take _
    · cases e
  | _ => cases e
end
end Rf
namespace Rf
open PySem PySem.Spec PyProof.Rows L2
/-! ### dicts whose keys are tuples of ints -/
def keyI : D → Option Key
  | .int i => some (.inl i)
  | _ => none
def keysD : List D → Option (List Key)
  | [] => some []
  | x :: xs => (keyI x).bind fun k => (keysD xs).map fun ks => k :: ks
def keyD : D → Option (List Key)
  | .tup xs => keysD xs
  | _ => none
def valD (kvs : List (List Key × D)) (k : List Key) : Option D := (kvs.find? fun kv => decide (kv.1 = k)).map (·.2)
def putD (kvs : List (List Key × D)) (k : List Key) (d : D) : List (List Key × D) :=
  if (kvs.any fun kv => decide (kv.1 = k)) = true then kvs.map (fun kv => if kv.1 = k then (kv.1, d) else kv) else kvs ++ [(k, d)]
def dctOf (S : Sto) : D → Option (List (List Key × D))
  | .ref i => match S[i]? with
    | some (.dct kvs) => some kvs
    | _ => none
  | _ => none
def refOf : D → Nat
  | .ref i => i
  | _ => 0
def dctOfR (S : Sto) : D → Option (List (List Key × D))
  | .ref i => match S[i]? with
    | some (.dct kvs) => some kvs
    | some (.dcl kvs) => some kvs
    | _ => none
  | _ => none
def dctGet (S : Sto) (o k : D) : Option (Option D) := (dctOfR S o).bind fun kvs => (keyD k).map fun ks => valD kvs ks
section
variable {K : PySem.W.Frag} {φ : Nat → Addr} {S : Sto} {H : Hp} {n : Nat}
theorem keysD_rel : ∀ {ds : List D} {ks : List Key} {vs : List V}, keysD ds = some ks → Rels K φ n H vs ds → vs = ks.map kV
  | [], ks, vs, e, r => by cases e; cases r; rfl
  | d :: ds, ks, vs, e, r => by
    cases r with
    | cons r1 r2 =>
      unfold keysD at e
      cases h1 : keyI d with
      | none => rw [h1] at e; cases e
      | some k =>
        rw [h1, Option.bind_some] at e
        cases h2 : keysD ds with
        | none => rw [h2] at e; cases e
        | some ks' =>
          rw [h2] at e
          cases e
          rw [List.map_cons, keysD_rel h2 r2]
          cases r1 with
          | int i => cases h1; rfl
          | _ => cases h1
theorem keyD_rel {d : D} {k : List Key} {v : V} (e : keyD d = some k) (r : Rel K φ n H v d) : ∃ b, v = .ref b ∧ H b = some (.tup (k.map kV)) := by
  cases r with
  | @tup a xs ds h1 r1 => exact ⟨a, rfl, by rw [h1, keysD_rel e r1]⟩
  | _ => cases e
theorem dctOf_rel (ok : Ok K φ S H) {d : D} {v : V} {kvs : List (List Key × D)} (e : dctOf S d = some kvs) (r : Rel K φ S.length H v d) :
    ∃ i ks, d = .ref i ∧ i < S.length ∧ v = .ref (φ i) ∧ H (φ i) = some (.dT ks) ∧ ks.map (·.1) = kvs.map (·.1) ∧ Rels K φ S.length H (ks.map (·.2)) (kvs.map (·.2)) := by
  cases r with
  | @ref i hi =>
    unfold dctOf at e
    dsimp only at e
    obtain ⟨ho, e1, ro⟩ := ok.obj i _ (List.getElem?_eq_getElem hi)
    rw [List.getElem?_eq_getElem hi] at e
    generalize S[i] = o at e ro
    cases ro with
    | lst r1 => cases e
    | dct h1 r1 => cases e; exact ⟨i, _, rfl, hi, rfl, e1, h1, r1⟩
    | dcl _ _ => cases e
  | _ => cases e
theorem dctOfR_rel (ok : Ok K φ S H) {d : D} {v : V} {kvs : List (List Key × D)} (e : dctOfR S d = some kvs) (r : Rel K φ S.length H v d) :
    ∃ i ks, d = .ref i ∧ i < S.length ∧ v = .ref (φ i) ∧ Rd H (φ i) (.dT ks) ∧ ks.map (·.1) = kvs.map (·.1) ∧ Rels K φ S.length H (ks.map (·.2)) (kvs.map (·.2)) := by
  cases r with
  | @ref i hi =>
    unfold dctOfR at e
    dsimp only at e
    obtain ⟨ho, e1, ro⟩ := ok.obj i _ (List.getElem?_eq_getElem hi)
    rw [List.getElem?_eq_getElem hi] at e
    generalize S[i] = o at e ro
    cases ro with
    | lst r1 => cases e
    | dct h1 r1 => cases e; exact ⟨i, _, rfl, hi, rfl, .inl e1, h1, r1⟩
    | dcl h1 r1 => cases e; exact ⟨i, _, rfl, hi, rfl, .inr ⟨_, e1⟩, h1, r1⟩
  | _ => cases e
theorem val_rel {φ : Nat → Addr} {n : Nat} : ∀ {ks : List (List Key × V)} {kvs : List (List Key × D)}, ks.map (·.1) = kvs.map (·.1) → Rels K φ n H (ks.map (·.2)) (kvs.map (·.2)) → ∀ k, (∀ d, valD kvs k = some d → ∃ v, valV ks k = some v ∧ Rel K φ n H v d) ∧ (valD kvs k = none → valV ks k = none)
  | [], [], _, _, k => ⟨fun d e => (by cases e), fun _ => rfl⟩
  | [], _ :: _, e, _, _ => by cases e
  | _ :: _, [], e, _, _ => by cases e
  | (k1, v1) :: ks, (k2, d2) :: kvs, e, r, k => by
    rw [List.map_cons, List.map_cons, List.cons.injEq] at e
    obtain ⟨e1, e2⟩ := e
    dsimp only at e1
    subst e1
    cases r with
    | cons r1 r2 =>
      by_cases c : k1 = k
      · have a1 : valD ((k1, d2) :: kvs) k = some d2 := by simp [valD, List.find?_cons, c]
        have a2 : valV ((k1, v1) :: ks) k = some v1 := valV_pos (p := (k1, v1)) c
        rw [a1, a2]
        exact ⟨fun d z => by cases z; exact ⟨_, rfl, r1⟩, fun z => by cases z⟩
      · have a1 : valD ((k1, d2) :: kvs) k = valD kvs k := by simp [valD, List.find?_cons, c]
        have a2 : valV ((k1, v1) :: ks) k = valV ks k := valV_neg (p := (k1, v1)) c
        rw [a1, a2]
        exact val_rel e2 r2 k
theorem any_rel {k : List Key} : ∀ {ks : List (List Key × V)} {kvs : List (List Key × D)}, ks.map (·.1) = kvs.map (·.1) → (ks.any fun kv => decide (kv.1 = k)) = (kvs.any fun kv => decide (kv.1 = k))
  | [], [], _ => rfl
  | [], _ :: _, e => by cases e
  | _ :: _, [], e => by cases e
  | (k1, v1) :: ks, (k2, d2) :: kvs, e => by
    rw [List.map_cons, List.map_cons, List.cons.injEq] at e
    obtain ⟨e1, e2⟩ := e
    dsimp only at e1
    subst e1
    rw [List.any_cons, List.any_cons, any_rel e2]
theorem repl_rel {k : List Key} {v : V} {d : D} (r : Rel K φ n H v d) : ∀ {ks : List (List Key × V)} {kvs : List (List Key × D)}, ks.map (·.1) = kvs.map (·.1) → Rels K φ n H (ks.map (·.2)) (kvs.map (·.2)) →
    (ks.map fun kv => if kv.1 = k then (kv.1, v) else kv).map (·.1) = (kvs.map fun kv => if kv.1 = k then (kv.1, d) else kv).map (·.1) ∧ Rels K φ n H ((ks.map fun kv => if kv.1 = k then (kv.1, v) else kv).map (·.2)) ((kvs.map fun kv => if kv.1 = k then (kv.1, d) else kv).map (·.2))
  | [], [], _, _ => ⟨rfl, .nil⟩
  | [], _ :: _, e, _ => by cases e
  | _ :: _, [], e, _ => by cases e
  | (k1, v1) :: ks, (k2, d2) :: kvs, e, rr => by
    rw [List.map_cons, List.map_cons, List.cons.injEq] at e
    obtain ⟨e1, e2⟩ := e
    dsimp only at e1
    subst e1
    cases rr with
    | cons r1 r2 =>
      obtain ⟨h1, h2⟩ := repl_rel r e2 r2
      by_cases c : k1 = k
      · simp only [List.map_cons, c, if_true]
        exact ⟨by rw [h1], .cons r h2⟩
      · simp only [List.map_cons, c, if_false]
        exact ⟨by rw [h1], .cons r1 h2⟩
theorem put_rel {k : List Key} {v : V} {d : D} (r : Rel K φ n H v d) {ks : List (List Key × V)} {kvs : List (List Key × D)} (e : ks.map (·.1) = kvs.map (·.1)) (rr : Rels K φ n H (ks.map (·.2)) (kvs.map (·.2))) : RelO K φ n H (.dT (putK ks k v)) (.dct (putD kvs k d)) := by
  unfold putK putD
  rw [any_rel e]
  split
  · obtain ⟨h1, h2⟩ := repl_rel r e rr
    exact .dct h1 h2
  · refine .dct ?_ ?_
    · rw [List.map_append, List.map_append, e]; rfl
    · rw [List.map_append, List.map_append]
      exact rr.app (.cons r .nil)
theorem len_keys {ks : List (List Key × V)} {kvs : List (List Key × D)} (e : ks.map (·.1) = kvs.map (·.1)) : ks.length = kvs.length := by
  have := congrArg List.length e
  rwa [List.length_map, List.length_map] at this
theorem dctGet_rel (ok : Ok K φ S H) {o k : D} {x y : V} {r : Option D} (e : dctGet S o k = some r) (ro : Rel K φ S.length H x o) (rk : Rel K φ S.length H y k) :
    ∃ a rv, x = .ref a ∧ IsD H a ∧ DGet H a y rv ∧ (∀ d, r = some d → ∃ v, rv = some v ∧ Rel K φ S.length H v d) ∧ (r = none → rv = none) := by
  unfold dctGet at e
  cases h1 : dctOfR S o with
  | none => rw [h1] at e; cases e
  | some kvs =>
    rw [h1, Option.bind_some] at e
    cases h2 : keyD k with
    | none => rw [h2] at e; cases e
    | some kk =>
      rw [h2] at e
      cases e
      obtain ⟨i, ks, e1, hi, e2, e3, e4, e5⟩ := dctOfR_rel ok h1 ro
      obtain ⟨b, e6, e7⟩ := keyD_rel h2 rk
      obtain ⟨v1, v2⟩ := val_rel e4 e5 kk
      subst e6
      exact ⟨φ i, valV ks kk, e2, .inr ⟨ks, e3⟩, .inr ⟨ks, kk, b, e3, rfl, e7, rfl⟩, v1, v2⟩
end
section
variable {X : Cx} {ec : Str → Value} {W : WX}
def mDGet (mo mk : M D) : M D := mB mo fun o => mB mk fun k _ S => match dctGet S o k with
  | some (some d) => some (.val d S)
  | _ => none
theorem x_dget {o k : Expr} {mo mk : M D} {pos : Pos} (hu : X.A.units + 1 < cLine) (ho : XE X ec W o mo) (hk : XE X ec W k mk) (hs : NoSl k := by exact fun _ _ => rfl) : XE X ec W (.Subscript o k pos) (mDGet mo mk) := imE (pe_dget hu ho hk hs) fun σ H Q h => by
  obtain ⟨φ, S, ρ, c⟩ := Cf.start h
  refine rd_imp (c.bind (rel1 := Rel X.K) monoC_true) fun x H1 ⟨φ1, S1, a, ra, c1⟩ => ?_
  refine rd_imp ((c1.carry ra).bind (rel1 := Rel X.K) monoC_rel) fun y H2 ⟨φ2, S2, b, rb, c2⟩ => ?_
  obtain ⟨r', e, q⟩ := c2.run
  split at e
  · rename_i d hd
    cases e
    obtain ⟨a', rv, e1, _, g, h1, _⟩ := dctGet_rel c2.ok hd c2.car rb
    obtain ⟨v, e2, rv'⟩ := h1 d rfl
    subst e2
    exact ⟨a', v, e1, g, q φ2 H2 v (Ext.refl _ _ _) c2.ok rv'⟩
  · cases e
def mDGet2 (mo mk mx : M D) : M D := mB mo fun o ρ S => match dctOf S o with
  | some _ => (mB mk fun k => mB mx fun x _ S => match dctGet S o k with
    | some (some d) => some (.val d S)
    | some none => some (.val x S)
    | none => none) ρ S
  | none => none
theorem x_dget2 {o k x : Expr} {mo mk mx : M D} {apos cpos : Pos} (hu : X.A.units + 1 < cLine) (ho : XE X ec W o mo) (hk : XE X ec W k mk) (hx : XE X ec W x mx) (m : M2 X o "get" apos k x cpos) : XE X ec W (.Call (.Attribute o "get" apos) [k, x] [] cpos) (mDGet2 mo mk mx) := imE (pe_dget2 hu ho hk hx m) fun σ H Q h => by
  obtain ⟨φ, S, ρ, c⟩ := Cf.start h
  refine rd_imp (c.bind (rel1 := Rel X.K) monoC_true) fun x0 H1 ⟨φ1, S1, a, ra, c1⟩ => ?_
  obtain ⟨r', e, q⟩ := c1.run
  split at e
  · rename_i kvs hd
    obtain ⟨i, ks, e1, hi, e2, e3, _, _⟩ := dctOf_rel c1.ok hd ra
    refine ⟨φ1 i, e2, .inr ⟨ks, .inl e3⟩, ?_⟩
    have c1' : Cf X.K ec (Rel X.K) W (fun φ n H => Rel X.K φ n H x0 a) φ1 S1 ρ σ H1 Q ((mB mk fun k => mB mx fun x _ S => match dctGet S a k with
      | some (some d) => some (.val d S)
      | some none => some (.val x S)
      | none => none) ρ) := ⟨c1.ok, c1.env, ra, r', e, q⟩
    refine rd_imp (c1'.bind (rel1 := Rel X.K) monoC_rel) fun y H2 ⟨φ2, S2, b, rb, c2⟩ => ?_
    refine rd_imp ((c2.carry (C' := fun φ n H => Rel X.K φ n H x0 a ∧ Rel X.K φ n H y b) ⟨c2.car, rb⟩).bind (rel1 := Rel X.K) (monoC_and monoC_rel monoC_rel)) fun z H3 ⟨φ3, S3, d3, rd3, c3⟩ => ?_
    obtain ⟨r3, e4, q3⟩ := c3.run
    obtain ⟨cx, ck⟩ := c3.car
    split at e4
    · rename_i d hd3
      cases e4
      obtain ⟨a', rv, e5, _, g, h1, _⟩ := dctGet_rel c3.ok hd3 cx ck
      obtain ⟨v, e6, rv'⟩ := h1 d rfl
      subst e6
      have ea : φ1 i = a' := V.ref.inj (e2.symm.trans e5)
      exact ⟨some v, by rw [ea]; exact g, q3 φ3 H3 v (Ext.refl _ _ _) c3.ok rv'⟩
    · rename_i hd3
      cases e4
      obtain ⟨a', rv, e5, _, g, _, h2⟩ := dctGet_rel c3.ok hd3 cx ck
      have ea : φ1 i = a' := V.ref.inj (e2.symm.trans e5)
      exact ⟨none, by rw [ea, ← h2 rfl]; exact g, q3 φ3 H3 z (Ext.refl _ _ _) c3.ok rd3⟩
    · cases e4
  · cases e
/-- k in d -/
def mDIn (neg : Bool) (mk mo : M D) : M Bool := mB mk fun k => mB mo fun o _ S => match dctGet S o k with
  | some r => some (.val (r.isSome != neg) S)
  | none => none
theorem xt_din {o k : Expr} {mo mk : M D} {pos : Pos} (hu : X.A.units + 1 < cLine) (hk : XE X ec W k mk) (ho : XE X ec W o mo) (h1 : behindInMarks .In o = false := by rfl) : XT X ec W (.Compare k [.In] [o] pos) (mDIn false mk mo) := imT (pt_cmp (pc_din hu hk ho) h1) fun σ H Q h => by
  obtain ⟨φ, S, ρ, c⟩ := Cf.start h
  refine rd_imp (c.bind (rel1 := Rel X.K) monoC_true) fun x H1 ⟨φ1, S1, a, ra, c1⟩ => ?_
  refine rd_imp ((c1.carry ra).bind (rel1 := Rel X.K) monoC_rel) fun y H2 ⟨φ2, S2, b, rb, c2⟩ => ?_
  obtain ⟨r', e, q⟩ := c2.run
  split at e
  · rename_i r hd
    cases e
    obtain ⟨a', rv, e1, _, g, h1, h2⟩ := dctGet_rel c2.ok hd rb c2.car
    refine ⟨a', rv, e1, g, _, rfl, ?_⟩
    have : rv.isSome = (r.isSome != false) := by
      cases r with
      | none => rw [h2 rfl]; rfl
      | some d => obtain ⟨v, e2, _⟩ := h1 d rfl; rw [e2]; rfl
    rw [this]
    exact q φ2 H2 _ (Ext.refl _ _ _) c2.ok rfl
  · cases e
/-- d[k] = v -/
def sDPut (mo mk mv : M D) : MS := sB mv fun v => sB mo fun o => sB mk fun k ρ S => match dctOf S o, keyD k with
  | some kvs, some ks => if kvs.length < 1000000 then some (.nx ρ (S.set (refOf o) (.dct (putD kvs ks v)))) else none
  | _, _ => none
theorem x_dput {o k v : Expr} {mo mk mv : M D} {pos pos' : Pos} (hu : X.A.units + 1 < cLine) (ho : XE X ec W o mo) (hk : XE X ec W k mk) (hv : XE X ec W v mv) (hs : swapsWith v (some (.Subscript o k pos')) pos.line X.env = pure false := by rfl) :
    XS X ec W (.Assign [.Subscript o k pos'] v pos) (sDPut mo mk mv) := imS (ps_dput hu ho hk hv hs) fun D σ H h => by
  obtain ⟨φ, S, ρ, c⟩ := Cs.start h
  refine rd_imp (c.bind (rel1 := Rel X.K) monoC_true) fun x H1 ⟨φ1, S1, a, ra, ex1, c1⟩ => ?_
  refine rd_imp ((c1.carry ra).bind (rel1 := Rel X.K) monoC_rel) fun y H2 ⟨φ2, S2, b, rb, ex2, c2⟩ => ?_
  refine rd_imp ((c2.carry (C' := fun φ n H => Rel X.K φ n H x a ∧ Rel X.K φ n H y b) ⟨c2.car, rb⟩).bind (rel1 := Rel X.K) (monoC_and monoC_rel monoC_rel)) fun z H3 ⟨φ3, S3, d3, rd3, ex3, c3⟩ => ?_
  obtain ⟨r3, e4, q3⟩ := c3.run
  obtain ⟨cv, co⟩ := c3.car
  split at e4
  · rename_i kvs ks h1 h2
    split at e4
    · rename_i hsz
      cases e4
      obtain ⟨j, us, e1, hi, e2, e3, e5, e6⟩ := dctOf_rel c3.ok h1 co
      subst e1
      obtain ⟨kb, e7, e8⟩ := keyD_rel h2 rd3
      subst e7
      refine ⟨φ3 j, _, e2, DPut.t e3 e8 (by rw [len_keys e5]; exact Nat.lt_of_lt_of_le hsz (by decide)), ?_⟩
      have ex := ext_put c3.ok hi (nfD e3) (ho := .dT (putK us ks x))
      have hl : (S3.set j (.dct (putD kvs ks a))).length = S3.length := List.length_set
      refine q3 φ3 _ _ ?_ (c3.ok.put hi (nfD e3) (put_rel cv e5 e6)) ?_
      · show Ext φ3 S3.length H3 φ3 (S3.set j (.dct (putD kvs ks a))).length _
        rw [hl]; exact ex
      · show RelE X.K φ3 (S3.set j (.dct (putD kvs ks a))).length _ ρ σ
        rw [hl]; exact c3.env.mono c3.ok ex
    · cases e4
  · cases e4
end
end Rf
namespace Rf
open PySem PySem.Spec PyProof.Rows L2
/-! ### sorted(d), the keys tuples of ints -/
def adrV : Value → Addr
  | .ref a => a
  | _ => 0
def rSortDT (d : Nat) (B : Int) : List V → Hp → VK → Prop := fun vs H Q => ∃ (a : Addr) (kvs : List (List L2.Key × V)) (L : List (List Int)), vs = [.ref a] ∧ H a = some (.dT kvs) ∧ kvs.map (·.1) = L.map (fun ns => ns.map Sum.inl) ∧ L.length < 100000 ∧ (∀ ns ∈ L, ns.length = d ∧ TS.Bd B ns) ∧
  ∀ (zs : List (List Int × Addr)) (p : Addr), (zs.map (·.1)).Perm L → (zs.map (·.1)).Pairwise (fun n m => TS.code B n ≤ TS.code B m) → (∀ z ∈ zs, H z.2 = some (.tup (z.1.map V.int))) → H p = none → Q (.ref p) (upd H p (.lst (zs.map fun z => V.ref z.2)))
/-! ### the order of the data is that of the codes -/
theorem each_map2 {α β γ : Type} {R : β → γ → Prop} {f : α → β} {g : α → γ} : ∀ {l : List α}, (∀ x ∈ l, R (f x) (g x)) → PySem.W.EachIs R (l.map f) (l.map g)
  | [], _ => .nil
  | x :: l, h => .cons (h x List.mem_cons_self) (each_map2 fun y hy => h y (List.mem_cons_of_mem _ hy))
def encT (ns : List Int) : PyData := .tuple (ns.map .int)
theorem lt_code {B : Int} : ∀ {n m : List Int}, n.length = m.length → TS.Bd B n → TS.Bd B m → (n < m ↔ TS.code B n < TS.code B m)
  | [], [], _, _, _ => ⟨fun h => absurd h (List.not_lt_nil _), fun h => absurd h (Int.lt_irrefl _)⟩
  | [], _ :: _, h, _, _ => by cases h
  | _ :: _, [], h, _, _ => by cases h
  | x :: xs, y :: ys, h, h1, h2 => by
    have hl : xs.length = ys.length := by simpa using h
    have ih := lt_code hl h1.tail h2.tail
    rw [List.cons_lt_cons_iff]
    rcases Int.lt_trichotomy x y with c | c | c
    · have := TS.code_lt hl h1.tail h2.tail c
      exact ⟨fun _ => this, fun _ => .inl c⟩
    · subst c
      rw [TS.code_same hl, ← ih]
      exact ⟨fun z => z.elim (fun z => absurd z (Int.lt_irrefl _)) fun z => z.2, fun z => .inr ⟨rfl, z⟩⟩
    · have := TS.code_lt hl.symm h2.tail h1.tail c
      exact ⟨fun z => z.elim (fun z => by omega) fun z => by have := z.1; omega, fun z => by omega⟩
theorem le_enc (n m : List Int) : PySem.W.dataLe false encT n m = !decide (m < n) := by
  show (!PySem.W.dataLt (encT m) (encT n)) = _
  unfold encT
  rw [PySem.W.dataLt_tuple]
  show (!PySem.W.rowLt (m.map .int) (n.map .int)) = _
  rw [PySem.W.dataLt_ints]
theorem code_sorted {d : Nat} {B : Int} {L : List (List Int)} (hL : ∀ ns ∈ L, ns.length = d ∧ TS.Bd B ns) : (L.mergeSort (PySem.W.dataLe false encT)).Pairwise (fun n m => TS.code B n ≤ TS.code B m) := by
  have tr : ∀ a b c : List Int, PySem.W.dataLe false encT a b = true → PySem.W.dataLe false encT b c = true → PySem.W.dataLe false encT a c = true := fun a b c h1 h2 => by
    rw [le_enc] at h1 h2 ⊢
    have h1 : ¬ b < a := by simpa using h1
    have h2 : ¬ c < b := by simpa using h2
    have h3 : ¬ c < a := List.not_lt.mpr (List.le_trans (List.not_lt.mp h1) (List.not_lt.mp h2))
    simpa using h3
  have to : ∀ a b : List Int, (PySem.W.dataLe false encT a b || PySem.W.dataLe false encT b a) = true := fun a b => by
    rw [le_enc, le_enc]
    rcases List.le_total (l₁ := a) (l₂ := b) with h | h
    · have : ¬ b < a := List.not_lt.mpr h
      simp [this]
    · have : ¬ a < b := List.not_lt.mpr h
      simp [this]
  have pw := List.pairwise_mergeSort tr to L
  refine List.Pairwise.imp_of_mem (fun {n m} hn hm h => ?_) pw
  have hn' := hL n ((List.mergeSort_perm L _).mem_iff.mp hn)
  have hm' := hL m ((List.mergeSort_perm L _).mem_iff.mp hm)
  rw [le_enc] at h
  have h : ¬ m < n := by simpa using h
  exact Int.not_lt.mp fun z => h ((lt_code (hm'.1.trans hn'.1.symm) hm'.2 hn'.2).mpr z)
theorem reads_intsT {h : Heap} : ∀ {xs : List Value} {ns : List Int}, IntsAre xs ns → ReadsAll h xs (ns.map .int) []
  | _, _, .nil => .nil
  | _, _, .cons _ _ r => .cons (bs := []) (as := []) (.int _ _) (reads_intsT r)
theorem reads_tup {h : Heap} {v : Value} {ns : List Int} (t : TS.TupInts h v ns) : Reads h v (encT ns) [] := by
  obtain ⟨a, xs, rfl, ⟨o, ho, hc, n, hd⟩, hi⟩ := t
  exact .tuple ho hc hd (reads_intsT hi)
theorem alike_tups (L : List (List Int)) : PySem.W.AllAlike (L.map encT) := PySem.W.AllAlike.of fun b b' => by
  show PySem.W.alike (.tuple (b.map .int)) (.tuple (b'.map .int)) = true
  rw [PySem.W.alike]
  exact PySem.W.alike_ints b b'
theorem out_zs {H : Hp} : ∀ {out : List Value} {L : List (List Int)}, PySem.W.EachIs (fun v ns => ∃ b, v = Value.ref b ∧ H b = some (.tup (ns.map V.int))) out L → ∃ zs : List (List Int × Addr), zs.map (·.1) = L ∧ out = zs.map (fun z => Value.ref z.2) ∧ ∀ z ∈ zs, H z.2 = some (.tup (z.1.map V.int))
  | _, _, .nil => ⟨[], rfl, rfl, fun z hz => nomatch hz⟩
  | _, _, .cons (b := ns) h t => by
    obtain ⟨b, rfl, hb⟩ := h
    obtain ⟨zs, e1, e2, e3⟩ := out_zs t
    refine ⟨(ns, b) :: zs, by rw [List.map_cons, e1], by rw [List.map_cons, e2], fun z hz => ?_⟩
    rcases List.mem_cons.mp hz with rfl | hz
    · exact hb
    · exact e3 z hz
section
variable {X : Cx}
theorem ints_keys (ns : List Int) : (ns.map Sum.inl : List L2.Key).map kV = ns.map V.int := by
  rw [List.map_map]; rfl
theorem cr_sortedDT {d : Nat} {B : Int} (hd : 1 ≤ d) (hc : X.calm = true) (hun : X.A.units + 65 < cLine) : CallR X (.builtin "sorted") (rSortDT d B) := by
  intro pins s σ H vs us Q I r h
  obtain ⟨a, kvs, L, rfl, ha, hkL, h64, hL, q⟩ := h
  rw [Vals.ref1 r]
  obtain ⟨z, hs, ks, pr, o, es, ep, ho, hx, hdt, he, hn⟩ := (show ObjOk X.prog X.w H s.heap a (.dT kvs) from I.hok _ _ ha)
  have l1 : es.size = ks.length := size_of_entries he
  have l2 : kvs.length = ks.length := Paired.length pr
  have l3 : kvs.length = L.length := by
    have := congrArg List.length hkL
    rwa [List.length_map, List.length_map] at this
  refine Calls.call_function_entry PyProof.Rows.kind_sorted PyProof.Rows.plain_sorted PyProof.Rows.entry_sorted (PyProof.Rows.args_sorted1 _) ?_
  unfold Builtin.«sorted»
  refine wpAny_bind (m := checkCount "sorted" 1 1 _) (wpAny_pure ?_)
  refine wpAny_bind (PySem.W.kdu_collect (A := X.A.in1) (kdl_raw hs hx hdt) (I.ok.hd hc) ho (by rw [sizeLine_eq]; omega) fun h' tk acc hk it => ?_)
  have ea : acc.toList = ks.map fun x => Value.ref x.2.1 := by
    have hl : acc.toList.length = ks.length := by rw [Array.length_toList, it.1]; exact l1
    apply List.ext_getElem?
    intro j
    rw [List.getElem?_map]
    cases hj : acc.toList[j]? with
    | none =>
      have h1 := List.getElem?_eq_none_iff.mp hj
      rw [List.getElem?_eq_none (by omega)]
      rfl
    | some v =>
      obtain ⟨en, hen, hv⟩ := it.2 j v (by rw [← Array.getElem?_toList]; exact hj)
      have qe := entry_at he j
      rw [hen] at qe
      cases hb : ks[j]? with
      | none =>
        rw [hb] at qe
        exact nomatch (show some en = none from qe)
      | some b =>
        rw [hb] at qe
        have e2 : en = entryOfKey (tupleKind (mixKind X.prog X.w)) b := Option.some.inj qe
        rw [hv, e2]
        rfl
  have hal : acc.toList.length = L.length := by rw [ea, List.length_map]; omega
  -- what the keys are
  have inL : ∀ x ∈ ks, ∃ ns ∈ L, H x.2.1 = some (.tup (ns.map V.int)) := by
    intro x hx'
    obtain ⟨j, hj⟩ := List.mem_iff_getElem?.mp hx'
    obtain ⟨p, hp, r1, r2, r3⟩ := DX.pget pr hj
    have e1 : (kvs.map (·.1))[j]? = some p.1 := by rw [List.getElem?_map, hp]; rfl
    rw [hkL, List.getElem?_map] at e1
    cases e2 : L[j]? with
    | none => rw [e2] at e1; cases e1
    | some ns =>
      rw [e2] at e1
      have e3 : ns.map Sum.inl = p.1 := Option.some.inj e1
      refine ⟨ns, List.mem_of_getElem? e2, ?_⟩
      rw [r2, ← e3, ints_keys]
  have raw : ∀ x ∈ ks, ∃ ns ∈ L, H x.2.1 = some (.tup (ns.map V.int)) ∧ TS.TupInts s.heap (.ref x.2.1) ns := fun x hx' => by
    obtain ⟨ns, h1, h2⟩ := inL x hx'
    exact ⟨ns, h1, h2, tupI_raw I (.inl (.inl h2))⟩
  have permL : (ks.map fun x => TS.intsOf s.heap (.ref x.2.1)) = L := by
    apply List.ext_getElem?
    intro j
    rw [List.getElem?_map]
    cases hj : ks[j]? with
    | none =>
      have h1 := List.getElem?_eq_none_iff.mp hj
      rw [List.getElem?_eq_none (by omega)]
      rfl
    | some x =>
      obtain ⟨p, hp, r1, r2, r3⟩ := DX.pget pr hj
      have e1 : (kvs.map (·.1))[j]? = some p.1 := by rw [List.getElem?_map, hp]; rfl
      rw [hkL, List.getElem?_map] at e1
      cases e2 : L[j]? with
      | none => rw [e2] at e1; cases e1
      | some ns =>
        rw [e2] at e1
        have e3 : ns.map Sum.inl = p.1 := Option.some.inj e1
        have e4 : H x.2.1 = some (.tup (ns.map V.int)) := by rw [r2, ← e3, ints_keys]
        show some (TS.intsOf s.heap (.ref x.2.1)) = some ns
        rw [(tupI_raw I (.inl (.inl e4))).ints]
  have I1 : Inv X pins σ H { s with heap := h', toks := tk } := I.kept hk
  refine wpAny_bind (wpAny_newList ?_ (by rw [hal, sizeLine_eq]; omega))
  have hoL : (h'.push (seqObj "list" acc.toList.toArray 0)).get? h'.objs.size = some (seqObj "list" acc.toList.toArray 0) := Heap.get?_push_size _ rfl
  have keep : ∀ b o, s.heap.get? b = some o → o.cls = .type "tuple" → (h'.push (seqObj "list" acc.toList.toArray 0)).get? b = some o := fun b o e _ => Heap.get?_push_of_some _ (hk b o e)
  have eL : PySem.W.EachIs (fun v ns => ∃ b, v = Value.ref b ∧ H b = some (.tup (ns.map V.int))) acc.toList L := by
    rw [ea, ← permL]
    refine each_map2 fun x hx' => ⟨x.2.1, rfl, ?_⟩
    obtain ⟨ns, _, h2, h3⟩ := raw x hx'
    rw [h3.ints]
    exact h2
  have rd0 : ∀ x ∈ ks, Reads (h'.push (seqObj "list" acc.toList.toArray 0)) (.ref x.2.1) (encT (TS.intsOf s.heap (.ref x.2.1))) [] := fun x hx' => by
    obtain ⟨ns, _, h2, h3⟩ := raw x hx'
    rw [h3.ints]
    exact reads_tup (h3.keeps keep)
  have er : PySem.W.EachIs (fun v ns => ∃ as, Reads (h'.push (seqObj "list" acc.toList.toArray 0)) v (encT ns) as ∧ h'.objs.size ∉ as) acc.toList L := by
    have e0 := each_map2 (R := fun v ns => ∃ as, Reads (h'.push (seqObj "list" acc.toList.toArray 0)) v (encT ns) as ∧ h'.objs.size ∉ as) (f := fun x : List L2.Key × Addr × Value => Value.ref x.2.1) (g := fun x => TS.intsOf s.heap (.ref x.2.1)) (l := ks) fun x hx' => ⟨[], rd0 x hx', fun z => nomatch z⟩
    rw [permL, ← ea] at e0
    exact e0
  have srt : PySem.W.Sortable (L.map encT) := .inl fun q hq => by
    obtain ⟨ns, hns, rfl⟩ := List.mem_map.mp hq
    have := (hL ns hns).1
    cases ns with
    | nil => simp at this; omega
    | cons y r => exact ⟨_, _, rfl⟩
  show wpAny _ _ _ _ _ { s with heap := h'.push (seqObj "list" acc.toList.toArray 0), toks := tk }
  refine wpAny_bind (wpAny_holding (PySem.W.list_sort_data (s := { s with heap := h'.push (seqObj "list" acc.toList.toArray 0), toks := tk }) hoL eL er (alike_tups L) srt (by rw [sizeLine_eq]; omega) (fun ns _ => ?_) fun out hlen eo => ?_))
  · have : (encT ns).depth ≤ 1 := by
      show PyData.depthAll (ns.map .int) + 1 ≤ 1
      rw [PySem.W.depth_ints]
      exact Nat.le_refl _
    rw [Around.in1_units]
    omega
  obtain ⟨zs, z1, z2, z3⟩ := out_zs eo
  obtain ⟨e', he'⟩ := PyProof.Rows.sortedHeap_at (vs := acc.toList) (out := out.toArray) hoL
  have p1 : (zs.map (·.1)).Perm L := by
    rw [z1]
    exact List.mergeSort_perm L _
  have p2 : (zs.map (·.1)).Pairwise (fun n m => TS.code B n ≤ TS.code B m) := by
    rw [z1]
    exact code_sorted hL
  have rv : Vals (zs.map fun z => V.ref z.2) out := by
    rw [z2]
    clear z1 z2 z3 p1 p2 eo he'
    induction zs with
    | nil => exact .nil
    | cons z zs ih => exact .cons rfl ih
  have hlen2 : (zs.map fun z => V.ref z.2).length ≤ sizeLine := by
    rw [List.length_map, ← List.length_map (f := (·.1)), p1.length_eq, sizeLine_eq]
    omega
  have qq := q zs h'.objs.size p1 p2 z3 (I1.hok.fresh (Nat.le_refl _))
  refine wpAny_pure ⟨_, rfl, .ref h'.objs.size, upd H h'.objs.size (.lst (zs.map fun z => V.ref z.2)), I1.laid (t' := tk) (fun b u e => ?_) (Nat.le_refl _)
    (show ObjOk X.prog X.w _ _ _ (.lst (zs.map fun z => V.ref z.2)) from ⟨hlen2, out, e', rv, he'⟩), rfl, qq⟩
  have hb : b < h'.objs.size := Heap.lt_size e
  rw [PyProof.Rows.sortedHeap_old (Nat.ne_of_lt hb) (by rw [size_push']; exact Nat.lt_succ_of_lt hb)]
  exact Heap.get?_push_of_some _ e
end
end Rf
namespace Rf
open PySem PySem.Spec PyProof.Rows L2
/-! ### lists of ints in order -/
def lexLt : List Int → List Int → Bool
  | _, [] => false
  | [], _ :: _ => true
  | x :: xs, y :: ys => decide (x < y) || (decide (x = y) && lexLt xs ys)
def insL (x : List Int) : List (List Int) → List (List Int)
  | [] => [x]
  | y :: ys => if lexLt y x then y :: insL x ys else x :: y :: ys
def sortL (l : List (List Int)) : List (List Int) := l.foldr insL []
def tupI (ns : List Int) : D := .tup (ns.map .int)
def intK : List Key → Option (List Int)
  | [] => some []
  | .inl i :: r => (intK r).map (i :: ·)
  | .inr _ :: _ => none
def intsK : List (List Key) → Option (List (List Int))
  | [] => some []
  | k :: r => (intK k).bind fun x => (intsK r).map (x :: ·)
def bdI (ns : List Int) : Bool := ns.all fun m => decide (0 ≤ m) && decide (m < 1048576)
def sortOk (L : List (List Int)) : Bool := decide (L.length < 100000) && L.all (fun ns => decide (ns.length = (L.headD [0]).length) && bdI ns) && decide (1 ≤ (L.headD [0]).length)
theorem bdI_iff {ns : List Int} : bdI ns = true ↔ TS.Bd 1048576 ns := by
  unfold bdI TS.Bd
  rw [List.all_eq_true]
  exact ⟨fun h m hm => by have := h m hm; simpa using this, fun h m hm => by have := h m hm; simpa using this⟩
theorem lex_code {B : Int} : ∀ {n m : List Int}, n.length = m.length → TS.Bd B n → TS.Bd B m → (lexLt n m = true ↔ TS.code B n < TS.code B m)
  | [], [], _, _, _ => ⟨fun h => (by cases h), fun h => absurd h (Int.lt_irrefl _)⟩
  | [], _ :: _, h, _, _ => by cases h
  | _ :: _, [], h, _, _ => by cases h
  | x :: xs, y :: ys, h, h1, h2 => by
    have hl : xs.length = ys.length := by simpa using h
    have ih := lex_code hl h1.tail h2.tail
    unfold lexLt
    rcases Int.lt_trichotomy x y with c | c | c
    · have := TS.code_lt hl h1.tail h2.tail c
      simp [c, this]
    · subst c
      simp only [Int.lt_irrefl, decide_false, Bool.false_or, decide_true, Bool.true_and]
      rw [ih, TS.code_same hl]
    · have := TS.code_lt hl.symm h2.tail h1.tail c
      have n1 : ¬ x < y := by omega
      have n2 : ¬ x = y := by omega
      simp only [n1, n2, decide_false, Bool.false_or, Bool.false_and]
      exact ⟨fun z => (by cases z), fun z => by omega⟩
theorem code_inj {B : Int} : ∀ {n m : List Int}, n.length = m.length → TS.Bd B n → TS.Bd B m → TS.code B n = TS.code B m → n = m
  | [], [], _, _, _, _ => rfl
  | [], _ :: _, h, _, _, _ => by cases h
  | _ :: _, [], h, _, _, _ => by cases h
  | x :: xs, y :: ys, h, h1, h2, e => by
    have hl : xs.length = ys.length := by simpa using h
    rcases Int.lt_trichotomy x y with c | c | c
    · have := TS.code_lt hl h1.tail h2.tail c
      omega
    · subst c
      rw [code_inj hl h1.tail h2.tail]
      have a := TS.code_same (B := B) (d := x) hl
      have b := TS.code_same (B := B) (d := x) hl.symm
      omega
    · have := TS.code_lt hl.symm h2.tail h1.tail c
      omega
theorem perm_ins (x : List Int) : ∀ l : List (List Int), (insL x l).Perm (x :: l)
  | [] => List.Perm.refl _
  | y :: ys => by
    unfold insL
    split
    · exact ((perm_ins x ys).cons y).trans (List.Perm.swap x y ys)
    · exact List.Perm.refl _
theorem perm_sort : ∀ l : List (List Int), (sortL l).Perm l
  | [] => List.Perm.refl _
  | x :: l => (perm_ins x (sortL l)).trans ((perm_sort l).cons x)
section
variable {d : Nat} {B : Int}
def LOk (d : Nat) (B : Int) (l : List (List Int)) : Prop := ∀ n ∈ l, n.length = d ∧ TS.Bd B n
theorem ins_sorted {x : List Int} (hx : x.length = d ∧ TS.Bd B x) : ∀ {l : List (List Int)}, LOk d B l → l.Pairwise (fun n m => TS.code B n ≤ TS.code B m) → (insL x l).Pairwise (fun n m => TS.code B n ≤ TS.code B m)
  | [], _, _ => by simp [insL]
  | y :: ys, h, hp => by
    unfold insL
    have hy := h y List.mem_cons_self
    rw [List.pairwise_cons] at hp
    by_cases c : lexLt y x = true
    · rw [if_pos c, List.pairwise_cons]
      have c' := (lex_code (hy.1.trans hx.1.symm) hy.2 hx.2).mp c
      refine ⟨fun m hm => ?_, ins_sorted hx (fun n hn => h n (List.mem_cons_of_mem _ hn)) hp.2⟩
      rcases List.mem_cons.mp ((perm_ins x ys).mem_iff.mp hm) with rfl | hm
      · omega
      · exact hp.1 m hm
    · rw [if_neg c, List.pairwise_cons]
      have c' : ¬ TS.code B y < TS.code B x := fun z => c ((lex_code (hy.1.trans hx.1.symm) hy.2 hx.2).mpr z)
      refine ⟨fun m hm => ?_, List.pairwise_cons.mpr hp⟩
      rcases List.mem_cons.mp hm with rfl | hm
      · omega
      · have := hp.1 m hm
        omega
theorem sort_sorted : ∀ {l : List (List Int)}, LOk d B l → (sortL l).Pairwise (fun n m => TS.code B n ≤ TS.code B m)
  | [], _ => List.Pairwise.nil
  | x :: l, h => ins_sorted (h x List.mem_cons_self) (fun n hn => h n (List.mem_cons_of_mem _ ((perm_sort l).mem_iff.mp hn))) (sort_sorted fun n hn => h n (List.mem_cons_of_mem _ hn))
theorem sorted_eq : ∀ {l m : List (List Int)}, LOk d B m → l.Perm m → l.Pairwise (fun n m => TS.code B n ≤ TS.code B m) → m.Pairwise (fun n m => TS.code B n ≤ TS.code B m) → l = m
  | [], m, _, h, _, _ => h.nil_eq
  | x :: l, [], _, h, _, _ => by have := h.length_eq; simp at this
  | x :: l, y :: m, hk, h, h1, h2 => by
    rw [List.pairwise_cons] at h1 h2
    have e : x = y := by
      have hx : x ∈ y :: m := h.mem_iff.mp List.mem_cons_self
      have hy : y ∈ x :: l := h.mem_iff.mpr List.mem_cons_self
      rcases List.mem_cons.mp hx with e | hx'
      · exact e
      · rcases List.mem_cons.mp hy with e | hy'
        · exact e.symm
        · have a := h1.1 y hy'
          have b := h2.1 x hx'
          exact code_inj ((hk x hx).1.trans (hk y List.mem_cons_self).1.symm) (hk x hx).2 (hk y List.mem_cons_self).2 (by omega)
    subst e
    rw [sorted_eq (fun n hn => hk n (List.mem_cons_of_mem _ hn)) (List.Perm.cons_inv h) h1.2 h2.2]
end
theorem intK_eq : ∀ {k : List Key} {ns : List Int}, intK k = some ns → k = ns.map Sum.inl
  | [], ns, e => by cases e; rfl
  | .inl i :: r, ns, e => by
    unfold intK at e
    cases h : intK r with
    | none => rw [h] at e; cases e
    | some x => rw [h] at e; cases e; rw [List.map_cons, intK_eq h]
  | .inr _ :: r, ns, e => by cases e
theorem intsK_eq : ∀ {ks : List (List Key)} {L : List (List Int)}, intsK ks = some L → ks = L.map fun ns => ns.map Sum.inl
  | [], L, e => by cases e; rfl
  | k :: r, L, e => by
    unfold intsK at e
    cases h : intK k with
    | none => rw [h] at e; cases e
    | some x =>
      rw [h, Option.bind_some] at e
      cases h2 : intsK r with
      | none => rw [h2] at e; cases e
      | some y => rw [h2] at e; cases e; rw [List.map_cons, intK_eq h, intsK_eq h2]
/-- sorted(d) -/
def gSortD : GN := fun as S => match as with
  | [a] => (dctOf S a).bind fun kvs => (intsK (kvs.map (·.1))).bind fun L => if sortOk L then some (.ref S.length, S ++ [.lst ((sortL L).map tupI)]) else none
  | _ => none
section
variable {X : Cx} {ec : Str → Value} {W : WX}
theorem rels_int {K : PySem.W.Frag} {φ : Nat → Addr} {n : Nat} {H : Hp} : ∀ ns : List Int, Rels K φ n H (ns.map V.int) (ns.map D.int)
  | [] => .nil
  | x :: r => .cons (.int x) (rels_int r)
theorem callS_sortD (hc : X.calm = true) (hun : X.A.units + 65 < cLine) : CallS X (.builtin "sorted") gSortD := by
  refine ⟨fun vs H Q => ∃ d, 1 ≤ d ∧ rSortDT d 1048576 vs H Q, fun pins s σ H vs us Q I r ⟨d, hd, h⟩ => cr_sortedDT hd hc hun pins s σ H vs us Q I r h, fun φ S H xs as c S' ok ra e Q q => ?_⟩
  unfold gSortD at e
  split at e
  · rename_i a
    cases h1 : dctOf S a with
    | none => rw [h1] at e; cases e
    | some kvs =>
      rw [h1, Option.bind_some] at e
      cases h2 : intsK (kvs.map (·.1)) with
      | none => rw [h2] at e; cases e
      | some L =>
        rw [h2, Option.bind_some] at e
        split at e
        · rename_i hs
          cases e
          unfold sortOk at hs
          rw [Bool.and_eq_true, Bool.and_eq_true, List.all_eq_true] at hs
          obtain ⟨⟨hs1, hs2⟩, hs3⟩ := hs
          have okL : LOk (L.headD [0]).length 1048576 L := fun n hn => by
            have := hs2 n hn
            rw [Bool.and_eq_true] at this
            exact ⟨of_decide_eq_true this.1, bdI_iff.mp this.2⟩
          cases ra with
          | cons r t =>
            cases t
            obtain ⟨i, ks, e1, hi, e2, e3, e4, e5⟩ := dctOf_rel ok h1 r
            subst e2
            refine ⟨_, of_decide_eq_true hs3, φ i, ks, L, rfl, e3, by rw [e4]; exact intsK_eq h2, of_decide_eq_true hs1, okL, fun zs p hz1 hz2 hz3 hp => ?_⟩
            have ez : zs.map (·.1) = sortL L := by
              refine sorted_eq (d := (L.headD [0]).length) (B := 1048576) (fun n hn => okL n ((perm_sort L).mem_iff.mp hn)) (hz1.trans (perm_sort L).symm) hz2 (sort_sorted okL)
            refine q _ _ _ (ext_new' hp) (ok.new hp (.lst ?_)) rel_new
            rw [← ez, List.map_map]
            clear ez hz1 hz2 q
            induction zs with
            | nil => exact .nil
            | cons z zs ih => exact .cons (.tup (hz3 z List.mem_cons_self) (rels_int _)) (ih fun y hy => hz3 y (List.mem_cons_of_mem _ hy))
        · cases e
  · cases e
/-! ### lcm -/
set_option exponentiation.threshold 20000
def lcmOk (i : Int) : Bool := decide (i.natAbs.log2 < 13000)
def gLcm : GN := fun as S => match as with
  | [.int i, .int j] => if lcmOk i && lcmOk j then some (.int ((Nat.lcm i.natAbs j.natAbs : Nat) : Int), S) else none
  | _ => none
theorem log2_max {a b n : Nat} (ha : a.log2 < n) (hb : b.log2 < n) : (max a b).log2 < n := by
  rcases Nat.le_total a b with h | h
  · rw [Nat.max_eq_right h]; exact hb
  · rw [Nat.max_eq_left h]; exact ha
theorem lcm_log {a b : Nat} (ha : a.log2 < 13000) (hb : b.log2 < 13000) : (Nat.lcm a b).log2 < 26002 := by
  have h1 : a < 2 ^ 13000 := by
    by_cases z : a = 0
    · rw [z]; exact Nat.pow_pos (by decide)
    · exact (Nat.log2_lt z).mp ha
  have h2 : b < 2 ^ 13000 := by
    by_cases z : b = 0
    · rw [z]; exact Nat.pow_pos (by decide)
    · exact (Nat.log2_lt z).mp hb
  have h3 : Nat.lcm a b ≤ a * b := Nat.div_le_self _ _
  by_cases z : Nat.lcm a b = 0
  · rw [z]; decide
  · rw [Nat.log2_lt z]
    have h4 : a * b < 2 ^ 13000 * 2 ^ 13000 := Nat.mul_lt_mul'' h1 h2
    rw [← Nat.pow_add] at h4
    exact Nat.lt_of_le_of_lt h3 (Nat.lt_of_lt_of_le h4 (Nat.pow_le_pow_right (by decide) (by decide)))
def rLcm : List V → Hp → VK → Prop := fun vs H Q => ∃ a b : Int, vs = [.int a, .int b] ∧ lcmOk a = true ∧ lcmOk b = true ∧ Q (.int ((Nat.lcm a.natAbs b.natAbs : Nat) : Int)) H
theorem cr_lcm : CallR X (.builtin "math.lcm") rLcm := by
  intro pins s σ H vs us Q I r h
  obtain ⟨a, b, rfl, ha, hb, q⟩ := h
  obtain ⟨t, u, rfl⟩ := Vals.int2 r
  have ha := of_decide_eq_true ha
  have hb := of_decide_eq_true hb
  have h1 : (max 1 a.natAbs).log2 < 13000 := log2_max (by decide) ha
  have h2 : (max a.natAbs b.natAbs).log2 < 13000 := log2_max ha hb
  have e1 : Nat.lcm 1 a.natAbs = a.natAbs := Nat.lcm_one_left _
  refine call_function_meets PySem.W.MGF.kind_lcm PySem.W.MGF.plain_lcm PySem.W.MGF.entry_lcm (PySem.W.MGF.args_lcm _ _) (PySem.W.mg_run_lcm a t b u (by omega) (by omega) ?_).meets ?_
  · rw [e1]
    exact Nat.lt_of_lt_of_le (lcm_log ha hb) (by decide)
  · rw [e1]
    exact ⟨.int _, H, I.tok _, ⟨_, rfl⟩, q⟩
theorem callS_lcm : CallS X (.builtin "math.lcm") gLcm := ⟨_, cr_lcm, fun φ S H xs as c S' ok ra e Q q => by
  unfold gLcm at e
  split at e
  · split at e
    · rename_i i j h
      rw [Bool.and_eq_true] at h
      cases e
      cases ra with
      | cons r1 t =>
        cases t with
        | cons r2 t2 =>
          cases t2
          cases r1
          cases r2
          exact ⟨_, _, rfl, h.1, h.2, q φ H _ (Ext.refl _ _ _) ok (.int _)⟩
    · cases e
  · cases e⟩
end
end Rf
namespace Rf
open PySem PySem.Spec PyProof.Rows L2
/-! ### zip, enumerate -/
/-- what stands at a through a walk -/
def SqC (K : PySem.W.Frag) (φ : Nat → Addr) (n : Nat) (H : Hp) (R : Hp → List V → Prop) (sq : Sq) : Prop := ∀ φ' S' H', Ok K φ' S' H' → Ext φ n H φ' S'.length H' → ∀ i,
  (∀ d, sq i S' = some (some d) → ∃ xs v, R H' xs ∧ xs[i]? = some v ∧ Rel K φ' S'.length H' v d) ∧ (sq i S' = some none → ∃ xs, R H' xs ∧ xs.length ≤ i)
def isT : D → Bool
  | .tup _ => true
  | .kt _ => true
  | _ => false
section
variable {K : PySem.W.Frag} {φ : Nat → Addr} {S : Sto} {H : Hp}
theorem sqC_of {v : V} {d : D} {sq : Sq} (k : Ok K φ S H) (r : Rel K φ S.length H v d) (h : sqOf S d = some sq) : ∃ a, v = .ref a ∧
    (isT d = true → (∃ xs, SqT K H a xs) ∧ SqC K φ S.length H (fun H xs => SqT K H a xs) sq) ∧ (isT d = false → (∃ xs, SqL K H a xs) ∧ SqC K φ S.length H (fun H xs => SqL K H a xs) sq) := by
  have tupC : ∀ {a : Addr} {xs : List V} {ds : List D}, TuT K H a xs → Rels K φ S.length H xs ds → SqC K φ S.length H (fun H xs => SqT K H a xs) (sqIt ds) := fun {a xs ds} h r φ' S' H' ok ex i => by
    have h' := (k.rdT ex h).sq
    have r' := r.mono k ex
    refine ⟨fun d e => ?_, fun e => ?_⟩
    · obtain ⟨v, hv, rv⟩ := r'.get i (Option.some.inj e)
      exact ⟨xs, v, h', hv, rv⟩
    · exact ⟨xs, h', by rw [r'.len]; exact List.getElem?_eq_none_iff.mp (Option.some.inj e)⟩
  cases r with
  | @tup a xs ds h1 r1 => cases h; exact ⟨a, rfl, fun _ => ⟨⟨_, .inl (.inl h1)⟩, tupC (.inl h1) r1⟩, fun z => by cases z⟩
  | @kt a xs ds h1 r1 => cases h; exact ⟨a, rfl, fun _ => ⟨⟨_, .inr h1⟩, tupC (.inr h1) r1⟩, fun z => by cases z⟩
  | @fro a xs ds h1 r1 =>
    cases h
    refine ⟨a, rfl, fun z => (by cases z), fun _ => ⟨⟨_, h1.sq⟩, fun φ' S' H' ok ex i => ?_⟩⟩
    have h' := (k.rdF ex h1).sq
    have r' := r1.mono k ex
    refine ⟨fun d e => ?_, fun e => ?_⟩
    · obtain ⟨v, hv, rv⟩ := r'.get i (Option.some.inj e)
      exact ⟨xs, v, h', hv, rv⟩
    · exact ⟨xs, h', by rw [r'.len]; exact List.getElem?_eq_none_iff.mp (Option.some.inj e)⟩
  | @ref j hj =>
    unfold sqOf at h
    dsimp only at h
    split at h
    · rename_i ds0 hx0
      cases h
      obtain ⟨us, hu, _⟩ := k.lst hx0
      refine ⟨φ j, rfl, fun z => (by cases z), fun _ => ⟨⟨us, SqL.of hu⟩, fun φ' S' H' ok ex i => ?_⟩⟩
      have ea : φ' j = φ j := ex.same j hj
      refine ⟨fun d e => ?_, fun e => ?_⟩
      · unfold sqRef at e
        split at e
        · rename_i ds hx
          obtain ⟨xs, h1, r1⟩ := ok.lst hx
          obtain ⟨v, hv, rv⟩ := r1.get i (Option.some.inj e)
          rw [ea] at h1
          exact ⟨xs, v, SqL.of h1, hv, rv⟩
        · cases e
      · unfold sqRef at e
        split at e
        · rename_i ds hx
          obtain ⟨xs, h1, r1⟩ := ok.lst hx
          rw [ea] at h1
          exact ⟨xs, SqL.of h1, by rw [r1.len]; exact List.getElem?_eq_none_iff.mp (Option.some.inj e)⟩
        · cases e
    · cases h
  | _ => cases h
end
def zipQ (p q : Sq) : Sq := fun i S => match p i S, q i S with
  | some (some x), some (some y) => some (some (.tup [x, y]))
  | some none, some _ => some none
  | some (some _), some none => some none
  | _, _ => none
def enmQ (p : Sq) : Sq := fun i S => match p i S with
  | some (some x) => some (some (.tup [.int (i : Nat), x]))
  | some none => some none
  | none => none
theorem seqR_zipL {K : PySem.W.Frag} {φ : Nat → Addr} {n : Nat} {H : Hp} {a b : Addr} {p q : Sq} (ha : SqC K φ n H (fun H xs => SqL K H a xs) p) (hb : SqC K φ n H (fun H xs => SqL K H b xs) q) : SeqR K φ n H (Itz K a b) (zipQ p q) := fun φ' S' H' ok ex i => by
  obtain ⟨a1, a2⟩ := ha φ' S' H' ok ex i
  obtain ⟨b1, b2⟩ := hb φ' S' H' ok ex i
  unfold zipQ
  refine ⟨fun d e => ?_, fun e => ?_⟩
  · split at e
    · rename_i x y hx hy
      cases e
      obtain ⟨xs, v, h1, h2, h3⟩ := a1 x hx
      obtain ⟨ys, u, h4, h5, h6⟩ := b1 y hy
      refine ⟨⟨xs, ys, v, u, h1, h4, h2, h5⟩, fun z H'' hz => ?_⟩
      obtain ⟨T, x', y', rfl, hT, rfl, g1, g2⟩ := hz
      have e1 := (g1 xs h1).symm.trans h2
      have e2 := (g2 ys h4).symm.trans h5
      cases e1
      cases e2
      exact ⟨ext_imm hT, ok.imm hT, .tup upd_same (.cons (h3.mono ok (ext_imm hT)) (.cons (h6.mono ok (ext_imm hT)) .nil))⟩
    · cases e
    · cases e
    · cases e
  · split at e
    · cases e
    · rename_i y hx hy
      obtain ⟨xs, h1, h2⟩ := a2 hx
      cases y with
      | none =>
        obtain ⟨ys, h3, h4⟩ := b2 hy
        exact ⟨xs, ys, h1, h3, .inl h2⟩
      | some y =>
        obtain ⟨ys, u, h3, h4, _⟩ := b1 y hy
        exact ⟨xs, ys, h1, h3, .inl h2⟩
    · rename_i x hx hy
      obtain ⟨xs, v, h1, _, _⟩ := a1 x hx
      obtain ⟨ys, h3, h4⟩ := b2 hy
      exact ⟨xs, ys, h1, h3, .inr h4⟩
    · cases e
theorem seqR_zipT {K : PySem.W.Frag} {φ : Nat → Addr} {n : Nat} {H : Hp} {a b : Addr} {p q : Sq} (ha : SqC K φ n H (fun H xs => SqT K H a xs) p) (hb : SqC K φ n H (fun H xs => SqT K H b xs) q) : SeqR K φ n H (RZ.ItzT K a b) (zipQ p q) := fun φ' S' H' ok ex i => by
  obtain ⟨a1, a2⟩ := ha φ' S' H' ok ex i
  obtain ⟨b1, b2⟩ := hb φ' S' H' ok ex i
  unfold zipQ
  refine ⟨fun d e => ?_, fun e => ?_⟩
  · split at e
    · rename_i x y hx hy
      cases e
      obtain ⟨xs, v, h1, h2, h3⟩ := a1 x hx
      obtain ⟨ys, u, h4, h5, h6⟩ := b1 y hy
      refine ⟨⟨xs, ys, v, u, h1, h4, h2, h5⟩, fun z H'' hz => ?_⟩
      obtain ⟨T, x', y', rfl, hT, rfl, g1, g2⟩ := hz
      have e1 := (g1 xs h1).symm.trans h2
      have e2 := (g2 ys h4).symm.trans h5
      cases e1
      cases e2
      exact ⟨ext_imm hT, ok.imm hT, .tup upd_same (.cons (h3.mono ok (ext_imm hT)) (.cons (h6.mono ok (ext_imm hT)) .nil))⟩
    · cases e
    · cases e
    · cases e
  · split at e
    · cases e
    · rename_i y hx hy
      obtain ⟨xs, h1, h2⟩ := a2 hx
      cases y with
      | none =>
        obtain ⟨ys, h3, h4⟩ := b2 hy
        exact ⟨xs, ys, h1, h3, .inl h2⟩
      | some y =>
        obtain ⟨ys, u, h3, h4, _⟩ := b1 y hy
        exact ⟨xs, ys, h1, h3, .inl h2⟩
    · rename_i x hx hy
      obtain ⟨xs, v, h1, _, _⟩ := a1 x hx
      obtain ⟨ys, h3, h4⟩ := b2 hy
      exact ⟨xs, ys, h1, h3, .inr h4⟩
    · cases e
theorem seqR_enm {K : PySem.W.Frag} {φ : Nat → Addr} {n : Nat} {H : Hp} {a : Addr} {p : Sq} (ha : SqC K φ n H (fun H xs => SqL K H a xs) p) : SeqR K φ n H (Ite K a) (enmQ p) := fun φ' S' H' ok ex i => by
  obtain ⟨a1, a2⟩ := ha φ' S' H' ok ex i
  unfold enmQ
  refine ⟨fun d e => ?_, fun e => ?_⟩
  · split at e
    · rename_i x hx
      cases e
      obtain ⟨xs, v, h1, h2, h3⟩ := a1 x hx
      refine ⟨⟨xs, v, h1, h2⟩, fun z H'' hz => ?_⟩
      obtain ⟨T, x', rfl, hT, rfl, g1⟩ := hz
      have e1 := (g1 xs h1).symm.trans h2
      cases e1
      exact ⟨ext_imm hT, ok.imm hT, .tup upd_same (.cons (.int _) (.cons (h3.mono ok (ext_imm hT)) .nil))⟩
    · cases e
    · cases e
  · split at e
    · cases e
    · rename_i hx
      obtain ⟨xs, h1, h2⟩ := a2 hx
      exact ⟨xs, h1, h2⟩
    · cases e
def mZip (ms : M (List D)) : M Sq := mB ms fun as _ S => match as with
  | [a, b] => if isT a = isT b then match sqOf S a, sqOf S b with
    | some p, some q => some (.val (zipQ p q) S)
    | _, _ => none
    else none
  | _ => none
def mEnm (ms : M (List D)) : M Sq := mB ms fun as _ S => match as with
  | [a] => if isT a = false then match sqOf S a with
    | some p => some (.val (enmQ p) S)
    | _ => none
    else none
  | _ => none
section
variable {X : Cx} {ec : Str → Value} {W : WX}
theorem xi_zip {a b : Expr} {ms : M (List D)} {p pos tpos : Pos} {elts : List Expr} {kk : Nat} (ha : XA X ec W [a, b] ms) (hm : X.mg "zip" = none) (hg : Gl X "zip" := by rfl) (hs : starEach [a, b] X.env = (false, eval a X.env) :: starEach [b] X.env := by rfl) (hpl : (backTo pos (starEach [b] X.env)).any (·.1) = false := by rfl) :
    XI X ec W (.Tuple elts kk tpos) (.Call (.Name "zip" p) [a, b] [] pos) (mZip ms) := imI (RZ.pi_zipA hg hm ha hs hpl) fun σ H Q h => by
  obtain ⟨φ, S, ρ, c⟩ := Cf.start h
  refine rd_imp (c.bind (rel1 := Rels X.K) monoC_true) fun xs H1 ⟨φ1, S1, as, ra, c1⟩ => ?_
  obtain ⟨r, e, q⟩ := c1.run
  split at e
  · rename_i d1 d2
    split at e
    · rename_i hT
      split at e
      · rename_i p1 q1 h1 h2
        cases e
        cases ra with
        | cons r1 t1 =>
          cases t1 with
          | cons r2 t2 =>
            cases t2
            obtain ⟨x1, e1, k1, l1⟩ := sqC_of c1.ok r1 h1
            obtain ⟨x2, e2, k2, l2⟩ := sqC_of c1.ok r2 h2
            subst e1
            subst e2
            cases hd : isT d1 with
            | true =>
              have hd2 : isT d2 = true := hT ▸ hd
              obtain ⟨⟨us, h3⟩, c3⟩ := k1 hd
              obtain ⟨⟨ws, h4⟩, c4⟩ := k2 hd2
              exact ⟨x1, x2, us, ws, rfl, .inr ⟨h3, h4, q φ1 H1 _ (Ext.refl _ _ _) c1.ok (seqR_zipT c3 c4)⟩⟩
            | false =>
              have hd2 : isT d2 = false := hT ▸ hd
              obtain ⟨⟨us, h3⟩, c3⟩ := l1 hd
              obtain ⟨⟨ws, h4⟩, c4⟩ := l2 hd2
              exact ⟨x1, x2, us, ws, rfl, .inl ⟨h3, h4, q φ1 H1 _ (Ext.refl _ _ _) c1.ok (seqR_zipL c3 c4)⟩⟩
      · cases e
    · cases e
  · cases e
theorem xi_enm {a : Expr} {ms : M (List D)} {p pos tpos : Pos} {elts : List Expr} {kk : Nat} (ha : XA X ec W [a] ms) (hm : X.mg "enumerate" = none) (hg : Gl X "enumerate" := by rfl) (hs : starEach [a] X.env = [(false, eval a X.env)] := by rfl) :
    XI X ec W (.Tuple elts kk tpos) (.Call (.Name "enumerate" p) [a] [] pos) (mEnm ms) := imI (pi_enum hg hm ha hs) fun σ H Q h => by
  obtain ⟨φ, S, ρ, c⟩ := Cf.start h
  refine rd_imp (c.bind (rel1 := Rels X.K) monoC_true) fun xs H1 ⟨φ1, S1, as, ra, c1⟩ => ?_
  obtain ⟨r, e, q⟩ := c1.run
  split at e
  · rename_i d1
    split at e
    · rename_i hT
      split at e
      · rename_i p1 h1
        cases e
        cases ra with
        | cons r1 t1 =>
          cases t1
          obtain ⟨x1, e1, k1, l1⟩ := sqC_of c1.ok r1 h1
          subst e1
          obtain ⟨⟨us, h3⟩, c3⟩ := l1 hT
          exact ⟨x1, us, rfl, h3, q φ1 H1 _ (Ext.refl _ _ _) c1.ok (seqR_enm c3)⟩
      · cases e
    · cases e
  · cases e
end
end Rf
set_option maxHeartbeats 4000000
namespace Rf
open PySem PySem.Spec PyProof.Rows L2
/-! ### tuples of ints compared -/
def intsD : List D → Option (List Int)
  | [] => some []
  | .int i :: r => (intsD r).map (i :: ·)
  | _ :: _ => none
def tupOf : D → Option (List D)
  | .tup xs => some xs
  | .kt xs => some xs
  | _ => none
def gTI (f : List Int → List Int → Bool) : G2 := fun a b S => match (tupOf a).bind intsD, (tupOf b).bind intsD with
  | some n, some m => some (.bl (f n m), S)
  | _, _ => none
theorem intsD_rel {K : PySem.W.Frag} {φ : Nat → Addr} {n : Nat} {H : Hp} : ∀ {ds : List D} {ns : List Int} {vs : List V}, intsD ds = some ns → Rels K φ n H vs ds → vs = ns.map V.int
  | [], ns, vs, e, r => by cases e; cases r; rfl
  | d :: ds, ns, vs, e, r => by
    cases r with
    | cons r1 r2 =>
      cases r1 with
      | int i =>
        unfold intsD at e
        cases h : intsD ds with
        | none => rw [h] at e; cases e
        | some ms => rw [h] at e; cases e; rw [List.map_cons, intsD_rel h r2]
      | _ => cases e
theorem tupOf_rel {K : PySem.W.Frag} {φ : Nat → Addr} {n : Nat} {H : Hp} {d : D} {xs : List D} {v : V} (e : tupOf d = some xs) (r : Rel K φ n H v d) : ∃ a us, v = .ref a ∧ SqT K H a us ∧ Rels K φ n H us xs := by
  cases r with
  | tup h1 r1 => cases e; exact ⟨_, _, rfl, .inl (.inl h1), r1⟩
  | kt h1 r1 => cases e; exact ⟨_, _, rfl, .inr h1, r1⟩
  | _ => cases e
theorem dpAll_ints {K : PySem.W.Frag} {H : Hp} : ∀ ns : List Int, DpAll K H (ns.map V.int) (ns.map PyData.int)
  | [] => .nil
  | i :: r => .cons (.int i) (dpAll_ints r)
theorem listLt_lex : ∀ xs ys : List Int, PySem.W.listLt xs ys = lexLt xs ys
  | [], [] => rfl
  | [], _ :: _ => rfl
  | _ :: _, [] => rfl
  | x :: xs, y :: ys => by
    show (if x = y then PySem.W.listLt xs ys else decide (x < y)) = (decide (x < y) || (decide (x = y) && lexLt xs ys))
    by_cases c : x = y
    · subst c
      simp [listLt_lex xs ys]
    · simp [c]
section
variable {X : Cx} {ec : Str → Value} {W : WX}
def rTI (K : PySem.W.Frag) (f : List Int → List Int → Bool) : R2 := fun x y H Q => ∃ (a b : Addr) (ns ms : List Int), x = .ref a ∧ y = .ref b ∧ SqT K H a (ns.map V.int) ∧ SqT K H b (ms.map V.int) ∧ Q (.bl (f ns ms)) H
theorem holds_ti {pins : List (Addr × Obj)} {σ : L2.St} {H : Hp} {s : Shared} (I : L2.Inv X pins σ H s) {a : Addr} {ns : List Int} (h : SqT X.K H a (ns.map V.int)) : PySem.W.Holds s.heap (.ref a) (PySem.W.Tup.mk ns) := by
  obtain ⟨as, r⟩ := Dp.reads I (.tuple (ns.map PyData.int)) (.ref a) (.ref a) (.tup h (dpAll_ints ns)) rfl
  exact ⟨as, r⟩
theorem op_geT (hu : X.A.units + 64 < cLine) : OpR X (compareOp .GtE) (rTI X.K fun n m => !lexLt n m) := by
  intro pins s σ H x y v u Q I rx ry h
  obtain ⟨a, b, ns, ms, rfl, rfl, h1, h2, q⟩ := h
  cases (show v = Value.ref a from rx)
  cases (show u = Value.ref b from ry)
  refine PySem.W.ge_datum (holds_ti I h1) (holds_ti I h2) (Nat.lt_of_le_of_lt (Nat.add_le_add_left (show PySem.W.Datum.depth (PySem.W.Tup Int) ≤ 64 by decide) _) hu) ⟨.bl _, H, I, rfl, ?_⟩
  have e : PySem.W.DatumOrd.lt (PySem.W.Tup.mk ns) (PySem.W.Tup.mk ms) = lexLt ns ms := listLt_lex ns ms
  rw [e]
  exact q
theorem op_ltT (hu : X.A.units + 64 < cLine) : OpR X (compareOp .Lt) (rTI X.K fun n m => lexLt n m) := by
  intro pins s σ H x y v u Q I rx ry h
  obtain ⟨a, b, ns, ms, rfl, rfl, h1, h2, q⟩ := h
  cases (show v = Value.ref a from rx)
  cases (show u = Value.ref b from ry)
  refine PySem.W.lt_datum (holds_ti I h1) (holds_ti I h2) (Nat.lt_of_le_of_lt (Nat.add_le_add_left (show PySem.W.Datum.depth (PySem.W.Tup Int) ≤ 64 by decide) _) hu) ⟨.bl _, H, I, rfl, ?_⟩
  have e : PySem.W.DatumOrd.lt (PySem.W.Tup.mk ns) (PySem.W.Tup.mk ms) = lexLt ns ms := listLt_lex ns ms
  rw [e]
  exact q
theorem opS_TI {op : CmpOp} {f : List Int → List Int → Bool} (h : OpR X (compareOp op) (rTI X.K f)) : OpS X (compareOp op) (gTI f) := by
  refine ⟨_, h, fun φ S H x y a b d S' ok ra rb e Q q => ?_⟩
  unfold gTI at e
  split at e
  · rename_i n m h1 h2
    cases e
    obtain ⟨xs, e1, e2⟩ := Option.bind_eq_some_iff.mp h1
    obtain ⟨ys, e3, e4⟩ := Option.bind_eq_some_iff.mp h2
    obtain ⟨a1, us, rfl, s1, r1⟩ := tupOf_rel e1 ra
    obtain ⟨b1, ws, rfl, s2, r2⟩ := tupOf_rel e3 rb
    rw [intsD_rel e2 r1] at s1
    rw [intsD_rel e4 r2] at s2
    exact ⟨a1, b1, n, m, rfl, rfl, s1, s2, q φ H _ (Ext.refl _ _ _) ok (.bl _)⟩
  · cases e
def gGeX : G2 := orG gGe (gTI fun n m => !lexLt n m)
theorem opS_geX {k : Nat} (hr : Room k X.A) : OpS X (compareOp .GtE) gGeX := opS_ge.or (opS_TI (op_geT hr.units))
/-! ### a tuple repeated -/
theorem tuple_mul1 (l : Addr) (items : Array Value) (n : Nat) (dd : Option Addr) (sl : Array (Option Value)) (u : Tok) :
    Meets (Builtin.«tuple.__mul__» ⟨[.ref l, .int 1 u], []⟩) (fun _ R s => s.heap.get? l = some { cls := .type "tuple", dict := dd, data := .seq items n, slots := sl } ∧
      R (.ok (.ret (Value.ref l))) s) :=
  .of_wp fun prog w A R s h => by
    obtain ⟨hp, g, d, tk, os⟩ := s
    obtain ⟨hl, h⟩ := h
    have f1 := AutoSeq1.idx_int
    wp_walk using wpAny_loadPart' hl
    repeat (first
      | (refine wpAny_ite_false (decide_eq_false (by decide)) ?_; wp_walk using wpAny_loadPart' hl)
      | (refine wpAny_ite_true (decide_eq_true (by simp)) ?_; wp_walk using wpAny_loadPart' hl))
    all_goals (try exact ⟨_, rfl, h⟩)
end
end Rf
namespace Rf
open PySem PySem.Spec PyProof.Rows L2
section
variable {X : Cx} {ec : Str → Value} {W : WX}
theorem op_repT1 : OpR X (binaryOp .Mult) (fun x y H Q => ∃ l xs, x = .ref l ∧ y = .int 1 ∧ SqT X.K H l xs ∧ Q (.ref l) H) := by
  intro pins s σ H x y v u Q I rx ry h
  obtain ⟨l, xs, rfl, rfl, hT, q⟩ := h
  cases rx
  obtain ⟨t, rfl⟩ := ry
  obtain ⟨its, r, ⟨⟨cls, dd, data, sl⟩, ho, hc, n, hd⟩, hs⟩ := I.tuple hT
  simp only at hc hd
  subst hc hd
  refine wpAny_binaryOp_repeat_ref (T := "tuple") (U := "int") (by decide) ⟨_, ho, rfl⟩ (fun s' => typeIs_int s' 1 t) noFill_tuple_mul F.fills_int_mul F.slot_int_rmul repeat_tuple F.slot_int_index.lookup
    (call_meets F.slot_int_rmul (typeIs_int s 1 t) F.entry_int_rmul (F.args_int_rmul_2 _ _) (int_rmul_tuple 1 t l its.toArray n dd sl)
      ⟨ho, rfl, ⟨_, ho, rfl⟩, call_meets F.slot_tuple_mul ⟨_, ho, rfl⟩ F.entry_tuple_mul (F.args_tuple_mul_2 _ _) (tuple_mul1 l its.toArray n dd sl t) ⟨ho, ?_⟩⟩)
  exact ⟨.ref l, H, I, rfl, q⟩
def gRepT : G2 := fun a b S => match a, b with
  | .tup xs, .int k => if k = 1 then some (.tup xs, S) else if 2 ≤ k ∧ k ≤ 1000 ∧ xs.length ≤ 1000 ∧ xs ≠ [] then some (.tup (List.replicate k.toNat xs).flatten, S) else none
  | _, _ => none
theorem Rels.rep {K : PySem.W.Frag} {φ : Nat → Addr} {n : Nat} {H : Hp} {us : List V} {xs : List D} (r : Rels K φ n H us xs) : ∀ m : Nat, Rels K φ n H (List.replicate m us).flatten (List.replicate m xs).flatten
  | 0 => .nil
  | m + 1 => by
    rw [List.replicate_succ, List.replicate_succ, List.flatten_cons, List.flatten_cons]
    exact r.app (Rels.rep r m)
theorem opS_repT : OpS X (binaryOp .Mult) gRepT := by
  refine ⟨fun x y H Q => (∃ l xs, x = .ref l ∧ y = .int 1 ∧ SqT X.K H l xs ∧ Q (.ref l) H) ∨ rRepT X.K x y H Q, fun pins s σ H x y v u Q I rx ry h => h.elim (op_repT1 pins s σ H x y v u Q I rx ry) (op_repT pins s σ H x y v u Q I rx ry), fun φ S H x y a b d S' ok ra rb e Q q => ?_⟩
  unfold gRepT at e
  split at e
  · rename_i xs k
    cases ra with
    | tup h1 r1 =>
      cases rb
      split at e
      · rename_i hk
        cases e
        subst hk
        exact .inl ⟨_, _, rfl, rfl, .inl (.inl h1), q φ H _ (Ext.refl _ _ _) ok (.tup h1 r1)⟩
      · split at e
        · rename_i hk
          cases e
          refine .inr ⟨_, k, _, rfl, rfl, .inl (.inl h1), fun z => hk.2.2.2 (r1.nil_iff.mp z), hk.1, hk.2.1, by rw [r1.len]; exact hk.2.2.1, fun p hp => q φ _ _ (ext_imm hp) (ok.imm hp) (.tup upd_same ((r1.rep k.toNat).mono ok (ext_imm hp)))⟩
        · cases e
  · cases e
/-- a list repeated -/
def gRepL : G2 := fun a b S => match a, b with
  | .ref i, .int k => match S[i]? with
    | some (.lst xs) => if -1000 ≤ k ∧ k ≤ 1000 ∧ xs.length ≤ 1000 then some (.ref S.length, S ++ [.lst (List.replicate k.toNat xs).flatten]) else none
    | _ => none
  | _, _ => none
theorem opS_repL : OpS X (binaryOp .Mult) gRepL := by
  refine ⟨_, op_rep, fun φ S H x y a b d S' ok ra rb e Q q => ?_⟩
  unfold gRepL at e
  split at e
  · rename_i i k
    split at e
    · rename_i xs hx
      split at e
      · rename_i hk
        cases e
        cases ra with
        | ref hi =>
          cases rb
          obtain ⟨us, h1, r1⟩ := ok.lst hx
          have hm : us.length * k.toNat ≤ 1000 * 1000 := Nat.mul_le_mul (by rw [r1.len]; exact hk.2.2) (by omega)
          exact ⟨_, k, us, rfl, rfl, h1, by omega, by omega, by rw [sizeLine_eq]; omega, fun p hp => q _ _ _ (ext_new' hp) (ok.new hp (.lst (r1.rep k.toNat))) rel_new⟩
      · cases e
    · cases e
  · cases e
/-! ### xs[i] = v -/
def lstR (S : Sto) : D → Option (List D)
  | .ref i => match S[i]? with
    | some (.lst xs) => some xs
    | _ => none
  | _ => none
def intD : D → Option Int
  | .int i => some i
  | _ => none
theorem lstR_rel {K : PySem.W.Frag} {φ : Nat → Addr} {S : Sto} {H : Hp} (ok : Ok K φ S H) {d : D} {v : V} {xs : List D} (e : lstR S d = some xs) (r : Rel K φ S.length H v d) :
    ∃ i us, d = .ref i ∧ i < S.length ∧ v = .ref (φ i) ∧ H (φ i) = some (.lst us) ∧ Rels K φ S.length H us xs := by
  cases r with
  | @ref i hi =>
    unfold lstR at e
    dsimp only at e
    split at e
    · rename_i ys hx
      cases e
      obtain ⟨us, h1, r1⟩ := ok.lst hx
      exact ⟨i, us, rfl, hi, rfl, h1, r1⟩
    · cases e
  | _ => cases e
theorem intD_rel {K : PySem.W.Frag} {φ : Nat → Addr} {n : Nat} {H : Hp} {d : D} {v : V} {k : Int} (e : intD d = some k) (r : Rel K φ n H v d) : v = .int k := by
  cases r with
  | int i => cases e; rfl
  | _ => cases e
def sLPut (mo mi mv : M D) : MS := sB mv fun v => sB mo fun o => sB mi fun i ρ S => match lstR S o, intD i with
  | some xs, some k => match ixN xs.length k with
    | some j => some (.nx ρ (S.set (refOf o) (.lst (xs.set j v))))
    | none => none
  | _, _ => none
theorem Rels.set {K : PySem.W.Frag} {φ : Nat → Addr} {n : Nat} {H : Hp} {v : V} {d : D} (r : Rel K φ n H v d) : ∀ {us : List V} {xs : List D} (j : Nat), Rels K φ n H us xs → Rels K φ n H (us.set j v) (xs.set j d)
  | _, _, _, .nil => .nil
  | _, _, 0, .cons _ t => .cons r t
  | _, _, j + 1, .cons h t => .cons h (Rels.set r j t)
theorem x_lput {o k v : Expr} {mo mk mv : M D} {pos pos' : Pos} (ho : XE X ec W o mo) (hk : XE X ec W k mk) (hv : XE X ec W v mv) (hg : PG X (.Subscript o k pos') (L2.gSub (rd X.K ec (Rel X.K) W mo) (rd X.K ec (Rel X.K) W mk) rSetL))
    (hs : swapsWithSole [.Subscript o k pos'] v pos.line X.env = pure false := by rfl) (hw : swappedStores [.Subscript o k pos'] v X.env = pure none := by rfl)
    (h1 : (assignEach [.Subscript o k pos'] X.env).map (·.2) = [assign (.Subscript o k pos') X.env] := by rfl) : XS X ec W (.Assign [.Subscript o k pos'] v pos) (sLPut mo mk mv) := imS (ps_asg hv hg hs hw h1) fun D σ H h => by
  obtain ⟨φ, S, ρ, c⟩ := Cs.start h
  refine rd_imp (c.bind (rel1 := Rel X.K) monoC_true) fun x H1 ⟨φ1, S1, a, ra, ex1, c1⟩ => ?_
  refine rd_imp ((c1.carry ra).bind (rel1 := Rel X.K) monoC_rel) fun y H2 ⟨φ2, S2, b, rb, ex2, c2⟩ => ?_
  refine rd_imp ((c2.carry (C' := fun φ n H => Rel X.K φ n H x a ∧ Rel X.K φ n H y b) ⟨c2.car, rb⟩).bind (rel1 := Rel X.K) (monoC_and monoC_rel monoC_rel)) fun z H3 ⟨φ3, S3, d3, rd3, ex3, c3⟩ => ?_
  obtain ⟨r3, e4, q3⟩ := c3.run
  obtain ⟨cv, co⟩ := c3.car
  split at e4
  · rename_i xs k hx hk
    split at e4
    · rename_i j hj
      cases e4
      obtain ⟨i, us, e1, hi, e2, h1, r1⟩ := lstR_rel c3.ok hx co
      subst e1
      refine ⟨φ3 i, us, k, j, e2, intD_rel hk rd3, h1, by rw [r1.len]; exact hj, ?_⟩
      have ex := ext_put c3.ok hi (nfL h1) (ho := .lst (us.set j x))
      have hl : (S3.set i (.lst (xs.set j a))).length = S3.length := List.length_set
      refine q3 φ3 _ _ ?_ (c3.ok.put hi (nfL h1) (.lst (Rels.set cv j r1))) ?_
      · show Ext φ3 S3.length H3 φ3 (S3.set i (.lst (xs.set j a))).length _
        rw [hl]; exact ex
      · show RelE X.K φ3 (S3.set i (.lst (xs.set j a))).length _ ρ σ
        rw [hl]; exact c3.env.mono c3.ok ex
    · cases e4
  · cases e4
end
/-! ### {k: v} -/
section
variable {prog : Program} {w : World} {K : Type} [DecidableEq K] {knd : HeapKind prog w K} {A : Around} {E : Value → Shared → Prop} {s : Shared}
theorem subDict1 {kx vx : Sem Value} {Q : Addr → Shared → Prop} (hu : knd.room A)
    (h : wpAny (model prog w) A kx (fun kv s₁ => wpAny (model prog w) A vx (fun vv s₂ => ∃ a k, kv = .ref a ∧ knd.is s₂.heap k a ∧ s₂.heap.DictOfH knd s.heap.objs.size [] ∧
      ∀ h', h'.DictOfH knd s.heap.objs.size (storedH [] k a vv) → Heap.SameBut s.heap.objs.size s₂.heap h' → Q s.heap.objs.size { s₂ with heap := h', toks := s₂.toks + knd.draws k }) E s₁) E
      { s with heap := s.heap.push { cls := .type "dict", data := .dict #[] } }) :
    wpAny (model prog w) A (subDict [(kx, vx)]) Q E s := by
  unfold subDict
  refine wpAny_bind (wpAny_alloc ?_)
  refine wpAny_bind (wpAny_holding ?_)
  rw [if_pos (show [(kx, vx)].length ≤ 15 from (by show 1 ≤ 15; decide))]
  refine wpAny_bind (evalPairs_cons (wpAny_mono h (fun kv s₁ h₁ => wpAny_mono h₁ (fun vv s₂ h₂ => evalPairs_nil ?_) fun _ _ e => e) fun _ _ e => e))
  obtain ⟨a, k, rfl, hk, hm, hQ⟩ := h₂
  refine wpAny_holding ?_
  refine wpAny_bind ?_
  rw [List.forIn_cons]
  refine wpAny_bind (wpAny_bind (wpAny_dictSet_heap (hsz := by rw [List.length_nil]; exact Nat.zero_le _) hu hk hm fun h₁ hm₁ hs₁ => wpAny_pure ?_))
  dsimp only
  rw [List.forIn_nil]
  exact wpAny_pure (wpAny_pure (wpAny_pure (hQ h₁ hm₁ hs₁)))
end
def tDisp1 (tk tv : TE) : TE := fun σ H Q => ∀ p, H p = none → tk σ (upd H p (.dT [])) fun kx H1 => tv σ H1 fun vx H2 => H2 p = some (.dT []) ∧ ∃ b ks, kx = .ref b ∧ H2 b = some (.tup (ks.map kV)) ∧ Q (.ref p) (upd H2 p (.dT [(ks, vx)]))
section
variable {X : Cx} {ec : Str → Value} {W : WX}
theorem pe_disp1 {k v : Expr} {pos : Pos} {tk tv : TE} (hu : X.A.units + 1 < cLine) (hk : PE X k tk) (hv : PE X v tv) : PE X (.Dict [some k] [v] pos) (tDisp1 tk tv) := by
  refine ⟨fun pins s σ H Q I q => ?_⟩
  have hn := I.hok.fresh (Nat.le_refl s.heap.objs.size)
  have I1 := I.laid (a := s.heap.objs.size) (o := .dT []) (h' := s.heap.push { cls := .type "dict", data := .dict #[] }) (t' := s.toks) (fun _ _ q => Heap.get?_push_of_some _ q) (Nat.le_refl _) (dt_empty s.heap I.big)
  rw [arm_eval_Dict, zip_pairTrees [some k] [v] X.env pos rfl rfl, dictDisplay_pairs (pairTrees [some k] [v] X.env pos) (by simp [pairTrees]) (by simp [pairTrees])]
  refine wpAny_bind (wpAny_standAt (wpAny_bind (subDict1 (knd := tupleKind (mixKind X.prog X.w)) (show X.A.units < cLine by omega) (thn (hk.run pins _ σ _ _ I1 (q _ hn)) fun u s1 ⟨x, H1, I2, rx, q1⟩ => ?_))))
  refine wpAny_bind (thn (hv.run pins s1 σ H1 _ I2 q1) fun u2 s2 ⟨y, H2, I3, ry, e, b, ks, ek, hb, q2⟩ => wpAny_bind (wpAny_standAt (wpAny_pure ?_)))
  subst ek
  cases (show u = Value.ref b from rx)
  obtain ⟨z, hd, xs, rel, dd⟩ := dt_of I3.hok e
  cases rel
  refine ⟨b, ks, rfl, key_of I3.hok hb, dd, fun h' dd' hs => wpAny_pure ?_⟩
  obtain ⟨qo, es, ep, hq, h2, h3, h4, _, h5⟩ := dd'
  have hne : b ≠ s.heap.objs.size := ne_of hb e (fun z => nomatch z)
  have ob : ObjOk X.prog X.w (upd H2 s.heap.objs.size (.dT [(ks, y)])) h' s.heap.objs.size (.dT [(ks, y)]) :=
    ⟨by rw [sizeLine_eq]; show 1 ≤ 16777216; omega, hd, _, .cons ⟨rfl, by rw [upd_ne hne]; exact hb, ry⟩ .nil, qo, es, ep, hq, h2, h3, h4, h5⟩
  exact ⟨.ref s.heap.objs.size, _, d_write I3 (by rw [e]; exact True.intro) hs ⟨qo, hq⟩ ob, rfl, q2⟩
def mDct1 (mk mv : M D) : M D := fun ρ S => (mB mk fun k => mB mv fun v _ S2 => match keyD k, S2[S.length]? with
  | some ks, some (.dct []) => some (.val (.ref S.length) (S2.set S.length (.dct [(ks, v)])))
  | _, _ => none) ρ (S ++ [.dct []])
theorem x_dct1 {k v : Expr} {mk mv : M D} {pos : Pos} (hu : X.A.units + 1 < cLine) (hk : XE X ec W k mk) (hv : XE X ec W v mv) : XE X ec W (.Dict [some k] [v] pos) (mDct1 mk mv) := imE (pe_disp1 hu hk hv) fun σ H Q h => by
  obtain ⟨φ, S, ρ, ok, env, r, e, q⟩ := h
  intro p hp
  have ok1 := ok.new hp (.dct (ks := []) (kvs := []) rfl .nil)
  have ex1 : Ext φ S.length H (nxt φ S.length p) (S ++ [O.dct []]).length (upd H p (.dT [])) := ext_new' hp
  have c0 : Cf X.K ec (Rel X.K) W (fun φ' n H' => p = φ' S.length ∧ S.length < n) (nxt φ S.length p) (S ++ [O.dct []]) ρ σ (upd H p (.dT [])) Q ((mB mk fun k => mB mv fun v _ S2 => match keyD k, S2[S.length]? with
      | some ks, some (.dct []) => some (.val (.ref S.length) (S2.set S.length (.dct [(ks, v)])))
      | _, _ => none) ρ) := ⟨ok1, env.mono ok ex1, ⟨(by rw [nxt_new]), (by simp)⟩, r, e, q.ext ex1⟩
  have mc : MonoC X.K (fun φ' n (H' : Hp) => p = φ' S.length ∧ S.length < n) := fun φ S0 H φ' n' H' k e r => ⟨by rw [e.same _ r.2]; exact r.1, Nat.lt_of_lt_of_le r.2 e.le⟩
  refine rd_imp (c0.bind (rel1 := Rel X.K) mc) fun x H1 ⟨φ1, S1, a, ra, c1⟩ => ?_
  refine rd_imp ((c1.carry (C' := fun φ' n H' => (p = φ' S.length ∧ S.length < n) ∧ Rel X.K φ' n H' x a) ⟨c1.car, ra⟩).bind (rel1 := Rel X.K) (monoC_and mc monoC_rel)) fun y H2 ⟨φ2, S2, b, rb, c2⟩ => ?_
  obtain ⟨r', e', q'⟩ := c2.run
  obtain ⟨⟨cp, cl⟩, ck⟩ := c2.car
  split at e'
  · rename_i ks h1 h2
    cases e'
    obtain ⟨kb, e7, e8⟩ := keyD_rel h1 ck
    obtain ⟨ho, eo, ro⟩ := c2.ok.obj _ _ h2
    have eo' : H2 p = some (.dT []) := by
      rw [cp, eo]
      cases ro with
      | @dct us kvs g1 g2 =>
        cases us with
        | nil => rfl
        | cons _ _ => cases g1
    have hl : (S2.set S.length (.dct [(ks, b)])).length = S2.length := List.length_set
    have ex := ext_put c2.ok cl (nfD (cp ▸ eo')) (ho := .dT [(ks, y)])
    refine ⟨eo', kb, ks, e7, e8, ?_⟩
    rw [cp]
    refine q' φ2 _ _ ?_ (c2.ok.put cl (nfD (cp ▸ eo')) (.dct rfl (.cons rb .nil))) ?_
    · show Ext φ2 S2.length H2 φ2 (S2.set S.length (.dct [(ks, b)])).length _
      rw [hl]; exact ex
    · rw [hl]; exact .ref cl
  · cases e'
end
end Rf
namespace Rf
open PySem PySem.Spec PyProof.Rows L2
theorem ru {k : Nat} {A : Around} (r : Room k A) : A.units + 1 < cLine := by have := r.units; omega
end Rf
namespace Rf
open PySem PySem.Spec PyProof.Rows L2
/-! ### slices of tuples and lists -/
def slD (S : Sto) (a : D) (lo hi : Option Int) : Option (D × Sto) := match tupOf a with
  | some xs => if isKt a then none else some (.tup (Rf.cutD xs lo hi), S)
  | none => (lstOf S a).map fun xs => (.ref S.length, S ++ [.lst (Rf.cutD xs lo hi)])
def rSlX (K : PySem.W.Frag) : V → Option Int → Option Int → Hp → VK → Prop := fun x lo hi H Q => rSlA K x lo hi H Q ∨ rSlL K x lo hi H Q
section
variable {X : Cx} {ec : Str → Value} {W : WX}
theorem sl_any : SlR X (rSlX X.K) := by
  intro pins s σ H x v vl vu lo hi sl Q I rx hs pl pu h
  rcases h with h | h
  · exact sl_tupA pins s σ H x v vl vu lo hi sl Q I rx hs pl pu h
  · exact sl_list pins s σ H x v vl vu lo hi sl Q I rx hs pl pu h
theorem cut_whole {α : Type} {xs : List α} {lo hi : Option Int} (h : HT.sIx xs.length 0 lo = 0 ∧ HT.sIx xs.length xs.length hi = xs.length) : List.take (HT.sIx xs.length xs.length hi - HT.sIx xs.length 0 lo) (List.drop (HT.sIx xs.length 0 lo) xs) = xs := by
  rw [h.1, h.2, Nat.sub_zero, List.drop_zero, List.take_length]
theorem slD_rel {φ : Nat → Addr} {S S' : Sto} {H : Hp} {v : V} {a d : D} {lo hi : Option Int} {Q : VK} (ok : Ok X.K φ S H) (r : Rel X.K φ S.length H v a) (h : slD S a lo hi = some (d, S'))
    (q : ∀ φ' H' v', Ext φ S.length H φ' S'.length H' → Ok X.K φ' S' H' → Rel X.K φ' S'.length H' v' d → Q v' H') : rSlX X.K v lo hi H Q := by
  unfold slD at h
  split at h
  · rename_i xs hx
    split at h
    · cases h
    · rename_i hk
      cases h
      cases r with
      | tup h1 r1 =>
        cases hx
        refine .inl ⟨_, _, rfl, .inl (.inl h1), fun hw => q φ H _ (Ext.refl _ _ _) ok (.tup h1 ?_), fun hw p hp => q φ _ _ (ext_imm hp) (ok.imm hp) (.tup upd_same ?_)⟩
        · unfold Rf.cutD
          have e := cut_whole (xs := xs) (lo := lo) (hi := hi) (by rw [← r1.len]; exact hw)
          rw [e]
          exact r1
        · unfold cutV Rf.cutD
          rw [r1.len]
          exact ((r1.drop _).take _).mono ok (ext_imm hp)
      | kt h1 r1 => exact absurd rfl hk
      | _ => cases hx
  · rename_i hx
    cases h2 : lstOf S a with
    | none => rw [h2] at h; cases h
    | some ds =>
      rw [h2] at h
      cases h
      obtain ⟨p, xs, rfl, h5, r5⟩ := lst_rel ok r h2
      refine .inr ⟨p, xs, rfl, h5, fun l hl => q _ _ _ (ext_new' hl) (ok.new hl (.lst ?_)) rel_new⟩
      unfold cutV Rf.cutD
      rw [r5.len]
      exact (r5.drop _).take _
def mSx2 (m ml mh : M D) : M D := mB m fun a => mB ml fun l => match intD l with
  | some i => mB mh fun h _ S => match intD h with
    | some j => match slD S a (some i) (some j) with
      | some (d, S') => some (.val d S')
      | none => none
    | none => none
  | none => fun _ _ => none
def mSxH (m mh : M D) : M D := mB m fun a => mB mh fun h _ S => match intD h with
  | some j => match slD S a none (some j) with
    | some (d, S') => some (.val d S')
    | none => none
  | none => none
def mSxL (m ml : M D) : M D := mB m fun a => mB ml fun h _ S => match intD h with
  | some j => match slD S a (some j) none with
    | some (d, S') => some (.val d S')
    | none => none
  | none => none
theorem x_sx2 {e lo hi : PySem.Expr} {m ml mh : M D} {pos p2 : Pos} (he : XE X ec W e m) (hl : XE X ec W lo ml) (hh : XE X ec W hi mh) : XE X ec W (.Subscript e (.Slice (some lo) (some hi) none p2) pos) (mSx2 m ml mh) := imE (pe_slice sl_any he (po_some hl) (po_some hh)) fun σ H Q h => by
  obtain ⟨φ, S, ρ, c⟩ := Cf.start h
  refine rd_imp (c.bind (rel1 := Rel X.K) monoC_true) fun x H1 ⟨φ1, S1, a, ra, c1⟩ => ?_
  refine rd_imp ((c1.carry ra).bind (rel1 := Rel X.K) monoC_rel) fun y H2 ⟨φ2, S2, b, rb, c2⟩ => ?_
  cases hb : intD b with
  | none =>
    obtain ⟨r', e, q⟩ := c2.run
    rw [hb] at e
    cases e
  | some i =>
    refine ⟨i, intD_rel hb rb, ?_⟩
    have c2' : Cf X.K ec (Rel X.K) W (fun φ n H => Rel X.K φ n H x a) φ2 S2 ρ σ H2 Q ((mB mh fun h _ S => match intD h with
      | some j => match slD S a (some i) (some j) with
        | some (d, S') => some (R.val d S')
        | none => none
      | none => none) ρ) := by
      obtain ⟨r', e, q⟩ := c2.run
      rw [hb] at e
      exact ⟨c2.ok, c2.env, c2.car, r', e, q⟩
    refine rd_imp (c2'.bind (rel1 := Rel X.K) monoC_rel) fun z H3 ⟨φ3, S3, b3, rb3, c3⟩ => ?_
    obtain ⟨r', e, q⟩ := c3.run
    split at e
    · rename_i j hj
      refine ⟨j, intD_rel hj rb3, ?_⟩
      split at e
      · rename_i d S' hs
        cases e
        exact slD_rel c3.ok c3.car hs q
      · cases e
    · cases e
theorem x_sxH {e hi : PySem.Expr} {m mh : M D} {pos p2 : Pos} (he : XE X ec W e m) (hh : XE X ec W hi mh) : XE X ec W (.Subscript e (.Slice none (some hi) none p2) pos) (mSxH m mh) := imE (pe_slice sl_any he po_none (po_some hh)) fun σ H Q h => by
  obtain ⟨φ, S, ρ, c⟩ := Cf.start h
  refine rd_imp (c.bind (rel1 := Rel X.K) monoC_true) fun x H1 ⟨φ1, S1, a, ra, c1⟩ => ?_
  refine rd_imp ((c1.carry ra).bind (rel1 := Rel X.K) monoC_rel) fun z H3 ⟨φ3, S3, b3, rb3, c3⟩ => ?_
  obtain ⟨r', e, q⟩ := c3.run
  split at e
  · rename_i j hj
    refine ⟨j, intD_rel hj rb3, ?_⟩
    split at e
    · rename_i d S' hs
      cases e
      exact slD_rel c3.ok c3.car hs q
    · cases e
  · cases e
theorem x_sxL {e lo : PySem.Expr} {m ml : M D} {pos p2 : Pos} (he : XE X ec W e m) (hl : XE X ec W lo ml) : XE X ec W (.Subscript e (.Slice (some lo) none none p2) pos) (mSxL m ml) := imE (pe_slice sl_any he (po_some hl) po_none) fun σ H Q h => by
  obtain ⟨φ, S, ρ, c⟩ := Cf.start h
  refine rd_imp (c.bind (rel1 := Rel X.K) monoC_true) fun x H1 ⟨φ1, S1, a, ra, c1⟩ => ?_
  refine rd_imp ((c1.carry ra).bind (rel1 := Rel X.K) monoC_rel) fun z H3 ⟨φ3, S3, b3, rb3, c3⟩ => ?_
  obtain ⟨r', e, q⟩ := c3.run
  split at e
  · rename_i j hj
    refine ⟨j, intD_rel hj rb3, ?_⟩
    split at e
    · rename_i d S' hs
      cases e
      exact slD_rel c3.ok c3.car hs q
    · cases e
  · cases e
end
end Rf
namespace Rf
open PySem PySem.Spec PyProof.Rows L2
/-! ### all(list of booleans) -/
def boolsD : List D → Option (List Bool)
  | [] => some []
  | .bl b :: r => (boolsD r).map (b :: ·)
  | _ :: _ => none
theorem boolsD_map : ∀ bs : List Bool, boolsD (bs.map D.bl) = some bs
  | [] => rfl
  | b :: bs => by
    show (boolsD (bs.map D.bl)).map (b :: ·) = _
    rw [boolsD_map bs]; rfl
theorem rels_bools {K : PySem.W.Frag} {φ : Nat → Addr} {n : Nat} {H : Hp} : ∀ {xs : List V} {ds : List D} {bs : List Bool}, Rels K φ n H xs ds → boolsD ds = some bs → xs = bs.map V.bl
  | _, _, _, .nil, e => by cases e; rfl
  | _, _, _, .cons r t, e => by
    cases r with
    | bl b =>
      obtain ⟨bs', h1, h2⟩ := Option.map_eq_some_iff.mp e
      subst h2
      rw [rels_bools t h1]; rfl
    | _ => cases e
def gAll : GN := fun as S => match as with
  | [a] => (lstOf S a).bind fun ds => (boolsD ds).map fun bs => (.bl (bs.all id), S)
  | _ => none
section
variable {X : Cx} {ec : Str → Value} {W : WX}
theorem callS_all (hc : X.calm = true) : CallS X (.builtin "all") gAll := ⟨_, cr_all hc, fun φ S H xs as c S' ok ra e Q q => by
  unfold gAll at e
  split at e
  · rename_i a
    obtain ⟨ds, h1, h2⟩ := Option.bind_eq_some_iff.mp e
    obtain ⟨bs, h3, h4⟩ := Option.map_eq_some_iff.mp h2
    cases h4
    cases ra with
    | cons r t =>
      cases t
      obtain ⟨p, ys, rfl, hs, rs⟩ := lst_rel ok r h1
      rw [rels_bools rs h3] at hs
      exact ⟨p, bs, rfl, hs, q φ H _ (Ext.refl _ _ _) ok (.bl _)⟩
  · cases e⟩
end
end Rf
namespace Rf
open PySem PySem.Spec PyProof.Rows L2
/-! ### comprehensions with two `for` -/
def loopC2 (vs1 : List Nat) (t : Tgt) (c : M Bool) (it1 : M Sq) (t1 : Tgt) (c1 : M Bool) (el : M D) (sq : Sq) (ρ0 : Env) (n0 : Nat) : Nat → Nat → Sto → Option Sto
  | 0, _, _ => none
  | n + 1, i, S => match sq i S with
    | none => none
    | some none => some S
    | some (some d) => match t d ρ0 S with
      | none => none
      | some ρ1 => match c ρ1 S with
        | some (.val false S1) => loopC2 vs1 t c it1 t1 c1 el sq ρ0 n0 n (i + 1) S1
        | some (.val true S1) => match it1 ρ1 S1 with
          | some (.val sq1 S2) => match loopC t1 c1 el sq1 (wipeE ρ1 vs1) n0 fuel 0 S2 with
            | some S3 => loopC2 vs1 t c it1 t1 c1 el sq ρ0 n0 n (i + 1) S3
            | none => none
          | _ => none
        | _ => none
def mLc2 (vs vs1 : List Nat) (t : Tgt) (it : M Sq) (c : M Bool) (t1 : Tgt) (it1 : M Sq) (c1 : M Bool) (el : M D) : M D := mB it fun sq ρ S => match loopC2 vs1 t c it1 t1 c1 el sq (wipeE ρ vs) S.length fuel 0 (S ++ [.lst []]) with
  | some S' => some (.val (.ref S.length) S')
  | none => none
section
variable {X : Cx} {ec : Str → Value} {W : WX}
theorem wipe_wipe (vs : List Nat) (σ : L2.St) : L2.wipe (L2.wipe σ vs) vs = L2.wipe σ vs := by
  have : ∀ (us : List Nat), (∀ u ∈ us, u ∈ vs) → L2.wipe (L2.wipe σ us) vs = L2.wipe σ vs := by
    intro us
    induction us with
    | nil => intro _; rfl
    | cons u us ih =>
      intro hu
      show L2.wipe ((L2.wipe σ us).set u none) vs = _
      rw [wipe_set (hu u List.mem_cons_self), ih fun v hv => hu v (List.mem_cons_of_mem _ hv)]
  exact this vs fun _ h => h
theorem lc2_red {K : PySem.W.Frag} {mi mi1 : M Sq} {mt mt1 : M Bool} {me : M D} {g g1 : TG} {t t1 : Tgt} {vs vs1 : List Nat} (ht : TgS K g t vs) (ht1 : TgS K g1 t1 vs1) {σ : L2.St} {H : Hp} {Q : VK} (h : rd K ec (Rel K) W (mLc2 vs vs1 t mi mt t1 mi1 mt1 me) σ H Q) :
    tLc2 (rd K ec (SeqR K) W mi) g (rd K ec RelB W0 mt) (rd K ec (SeqR K) W0 mi1) g1 (rd K ec RelB W0 mt1) (rd K ec (Rel K) W0 me) vs vs1 σ H Q := by
  obtain ⟨φ, S, ρ, c⟩ := Cf.start h
  refine rd_imp (c.bind (rel1 := SeqR K) monoC_true) fun J H1 ⟨φ1, S1, sq, rJ, c1⟩ => ?_
  intro Da hD
  obtain ⟨r0, e0, q0⟩ := c1.run
  cases hl : loopC2 vs1 t mt mi1 t1 mt1 me sq (wipeE ρ vs) S1.length fuel 0 (S1 ++ [.lst []]) with
  | none => rw [hl] at e0; cases e0
  | some SF =>
    rw [hl] at e0
    cases e0
    have ex0 : Ext φ1 S1.length H1 (nxt φ1 S1.length Da) (S1 ++ [O.lst []]).length (upd H1 Da (.lst [])) := ext_new' hD
    have ok0 : Ok K (nxt φ1 S1.length Da) (S1 ++ [O.lst []]) (upd H1 Da (.lst [])) := c1.ok.new hD (.lst .nil)
    refine ⟨fun i m H => ∃ φ S, Ok K φ S H ∧ Ext φ1 S1.length H1 φ S.length H ∧ φ S1.length = Da ∧ S1.length < S.length ∧ loopC2 vs1 t mt mi1 t1 mt1 me sq (wipeE ρ vs) S1.length m i S = some SF, ?_, ?_⟩
    · exact ⟨fuel, _, _, ok0, ex0, nxt_new, by rw [List.length_append, List.length_singleton]; exact Nat.lt_succ_self _, hl⟩
    · rintro i m H ⟨φ, S, ok, ex, eD, hn, e⟩
      cases m with
      | zero => cases e
      | succ m =>
        unfold loopC2 at e
        have RJ := rJ φ S H ok ex i
        split at e
        · cases e
        · rename_i e1
          cases e
          refine .inl ⟨RJ.2 e1, ?_⟩
          have := q0 φ H (.ref Da) ex ok (by rw [← eD]; exact .ref hn)
          exact this
        · rename_i d e1
          obtain ⟨go, yld⟩ := RJ.1 d e1
          refine .inr ⟨go, fun H => ∃ φ S, Ok K φ S H ∧ Ext φ1 S1.length H1 φ S.length H ∧ φ S1.length = Da ∧ S1.length < S.length ∧ loopC2 vs1 t mt mi1 t1 mt1 me sq (wipeE ρ vs) S1.length m (i + 1) S = some SF, fun H' h => ⟨m, Nat.lt_succ_self _, h⟩, fun x H' y => ?_⟩
          obtain ⟨ex1, ok1, rx⟩ := yld x H' y
          split at e
          · cases e
          · rename_i ρ1 e2
            have envw : RelE K φ S.length H' (wipeE ρ vs) (wipe σ vs) := ((c1.env.mono c1.ok (ex.trans ex1)).wipe vs)
            refine ht φ S H' _ _ x d ρ1 ok1 envw rx e2 _ fun σ1 env1 w1 => ⟨by rw [w1, wipe_wipe], ?_⟩
            have exT : Ext φ1 S1.length H1 φ S.length H' := ex.trans ex1
            split at e
            · rename_i Sa e3
              refine ⟨φ, S, ρ1, ok1, env1, _, e3, fun φ2 H2 b ex2 ok2 rb => ?_⟩
              cases rb
              exact iteF ⟨φ2, Sa, ok2, exT.trans ex2, by rw [ex2.same _ hn]; exact eD, Nat.lt_of_lt_of_le hn ex2.le, e⟩
            · rename_i Sa e3
              refine ⟨φ, S, ρ1, ok1, env1, _, e3, fun φ2 H2 b ex2 ok2 rb => ?_⟩
              cases rb
              refine iteT ?_
              have hna : S1.length < Sa.length := Nat.lt_of_lt_of_le hn ex2.le
              have eDa : φ2 S1.length = Da := by rw [ex2.same _ hn]; exact eD
              have enva := env1.mono ok1 ex2
              split at e
              · rename_i sq1 Sb e4
                refine ⟨φ2, Sa, ρ1, ok2, enva, _, e4, fun φ3 H3 J1 ex3 ok3 rJ1 => ?_⟩
                have hnb : S1.length < Sb.length := Nat.lt_of_lt_of_le hna ex3.le
                have eDb : φ3 S1.length = Da := by rw [ex3.same _ hna]; exact eDa
                have envb := enva.mono ok2 ex3
                split at e
                · rename_i Sc e5
                  have exb : Ext φ1 S1.length H1 φ3 Sb.length H3 := (exT.trans ex2).trans ex3
                  refine ⟨fun j k H => ∃ φ S, Ok K φ S H ∧ Ext φ3 Sb.length H3 φ S.length H ∧ loopC t1 mt1 me sq1 (wipeE ρ1 vs1) S1.length k j S = some Sc, ⟨fuel, φ3, Sb, ok3, Ext.refl _ _ _, e5⟩, ?_⟩
                  rintro j k H ⟨φ4, S4, ok4, ex4, f⟩
                  have hn4 : S1.length < S4.length := Nat.lt_of_lt_of_le hnb ex4.le
                  have eD4 : φ4 S1.length = Da := by rw [ex4.same _ hnb]; exact eDb
                  cases k with
                  | zero => cases f
                  | succ k =>
                    unfold loopC at f
                    have RJ1 := rJ1 φ4 S4 H ok4 ex4 j
                    split at f
                    · cases f
                    · rename_i f1
                      cases f
                      exact .inl ⟨RJ1.2 f1, φ4, _, ok4, exb.trans ex4, eD4, hn4, e⟩
                    · rename_i d1 f1
                      obtain ⟨go1, yld1⟩ := RJ1.1 d1 f1
                      refine .inr ⟨go1, fun H => ∃ φ S, Ok K φ S H ∧ Ext φ3 Sb.length H3 φ S.length H ∧ loopC t1 mt1 me sq1 (wipeE ρ1 vs1) S1.length k (j + 1) S = some Sc, fun H' h => ⟨k, Nat.lt_succ_self _, h⟩, fun x1 H5 y1 => ?_⟩
                      obtain ⟨ex5, ok5, rx5⟩ := yld1 x1 H5 y1
                      split at f
                      · cases f
                      · rename_i ρ2 f2
                        have envw1 : RelE K φ4 S4.length H5 (wipeE ρ1 vs1) (wipe σ1 vs1) := (envb.mono ok3 (ex4.trans ex5)).wipe vs1
                        refine ht1 φ4 S4 H5 _ _ x1 d1 ρ2 ok5 envw1 rx5 f2 _ fun σ2 env2 w2 => ⟨by rw [w2, wipe_wipe], ?_⟩
                        have exT5 : Ext φ3 Sb.length H3 φ4 S4.length H5 := ex4.trans ex5
                        split at f
                        · rename_i Sd f3
                          refine ⟨φ4, S4, ρ2, ok5, env2, _, f3, fun φ6 H6 b ex6 ok6 rb => ?_⟩
                          cases rb
                          exact iteF ⟨φ6, Sd, ok6, exT5.trans ex6, f⟩
                        · rename_i Sd f3
                          refine ⟨φ4, S4, ρ2, ok5, env2, _, f3, fun φ6 H6 b ex6 ok6 rb => ?_⟩
                          cases rb
                          refine iteT ?_
                          split at f
                          · rename_i yv Se f4
                            refine ⟨φ6, Sd, ρ2, ok6, env2.mono ok5 ex6, _, f4, fun φ7 H7 b ex7 ok7 rb => ?_⟩
                            have hn6 : S1.length < Sd.length := Nat.lt_of_lt_of_le hn4 ex6.le
                            have hn7 : S1.length < Se.length := Nat.lt_of_lt_of_le hn6 ex7.le
                            have eD7 : φ7 S1.length = Da := by rw [ex7.same _ hn6, ex6.same _ hn4]; exact eD4
                            split at f
                            · rename_i acc f5
                              split at f
                              · rename_i hsz
                                obtain ⟨us, h6, r6⟩ := ok7.lst f5
                                refine ⟨us, by rw [← eD7]; exact h6, by rw [r6.len]; exact Nat.lt_of_lt_of_le hsz (by decide), φ7, _, ?_, ?_, f⟩
                                · rw [← eD7]
                                  exact ok7.put hn7 (nfL h6) (.lst (r6.app (.cons rb .nil)))
                                · rw [← eD7, List.length_set]
                                  exact ((exT5.trans ex6).trans ex7).trans (ext_put ok7 hn7 (nfL h6))
                              · cases f
                            · cases f
                          · cases f
                        · cases f
                · cases e
              · cases e
            · cases e
end
end Rf
namespace Rf
open PySem PySem.Spec PyProof.Rows L2
section
variable {X : Cx} {ec : Str → Value} {W : WX}
theorem x_lc2 {elt tg iter tg1 iter1 : Expr} {ifs ifs1 : List Expr} {scope : Scope} {own : List (Str × Nat)} {vs1 : List Nat} {pos : Pos} {mi mi1 : M Sq} {mt mt1 : M Bool} {me : M D} {g g1 : TG} {t t1 : Tgt} (hc : X.calm = true) (hN : X.N.Nodup) (hi : XI X ec W tg iter mi) (ok : BlkOk X.N X.env.scope scope own) (hv : ∀ i ∈ vs1, i ∈ own.map (·.2))
    (hg : ∀ (s : Shared) (H : Hp) (C : Addr) (cl : List (Str × Addr)) (fp : List Addr), PG (X.blk s H scope (compEnvC scope cl C X.env) fp) tg g) (ht : TgS X.K g t (own.map (·.2)))
    (hif : ∀ (s : Shared) (H : Hp) (C : Addr) (cl : List (Str × Addr)) (fp : List Addr), XTs (X.blk s H scope (compEnvC scope cl C X.env) fp) ec W0 ifs mt)
    (hi1 : ∀ (s : Shared) (H : Hp) (C : Addr) (cl : List (Str × Addr)) (fp : List Addr), XI (X.blk s H scope (compEnvC scope cl C X.env) fp) ec W0 tg1 iter1 mi1)
    (hg1 : ∀ (s : Shared) (H : Hp) (C : Addr) (cl : List (Str × Addr)) (fp : List Addr), PG (X.blk s H scope (compEnvC scope cl C X.env) fp) tg1 g1) (ht1 : TgS X.K g1 t1 vs1)
    (hif1 : ∀ (s : Shared) (H : Hp) (C : Addr) (cl : List (Str × Addr)) (fp : List Addr), XTs (X.blk s H scope (compEnvC scope cl C X.env) fp) ec W0 ifs1 mt1)
    (he : ∀ (s : Shared) (H : Hp) (C : Addr) (cl : List (Str × Addr)) (fp : List Addr), XE (X.blk s H scope (compEnvC scope cl C X.env) fp) ec W0 elt me) (hs : ∀ x, foldedSetIterable iter X.env x = pure x := by intro _; rfl) (hs1 : ∀ env x, foldedSetIterable iter1 env x = pure x := by intro _ _; rfl) :
    XE X ec W (.ListComp elt [⟨tg, iter, ifs, 0⟩, ⟨tg1, iter1, ifs1, 0⟩] scope pos) (mLc2 (own.map (·.2)) vs1 t mi mt t1 mi1 mt1 me) := imE (pe_lc2 (tt := rd X.K ec RelB W0 mt) (te := rd X.K ec (Rel X.K) W0 me) (wi1 := rd X.K ec (SeqR X.K) W0 mi1) (tt1 := rd X.K ec RelB W0 mt1) hc hN hi ok hv hg (fun s H C cl fp => hif s H C cl fp) (fun s H C cl fp => hi1 s H C cl fp) hg1 (fun s H C cl fp => hif1 s H C cl fp) (fun s H C cl fp => he s H C cl fp) hs hs1) fun σ H Q h => lc2_red ht ht1 h
end
end Rf
namespace Rf
open PySem PySem.Spec PyProof.Rows L2
section
variable {X : Cx} {ec : Str → Value} {W : WX}
theorem x_setLc2 {i : Nat} {y : Str} {py : Pos} {elt tg iter tg1 iter1 : Expr} {ifs ifs1 : List Expr} {scope : Scope} {own : List (Str × Nat)} {vs1 : List Nat} {pos spos : Pos} {mi mi1 : M Sq} {mt mt1 : M Bool} {me : M D} {g g1 : TG} {t t1 : Tgt} (hc : X.calm = true) (hN : X.N.Nodup) (hi : XI X ec W tg iter mi) (ok : BlkOk X.N X.env.scope scope own) (hv : ∀ i ∈ vs1, i ∈ own.map (·.2))
    (hg : ∀ (s : Shared) (H : Hp) (C : Addr) (cl : List (Str × Addr)) (fp : List Addr), PG (X.blk s H scope (compEnvC scope cl C X.env) fp) tg g) (ht : TgS X.K g t (own.map (·.2)))
    (hif : ∀ (s : Shared) (H : Hp) (C : Addr) (cl : List (Str × Addr)) (fp : List Addr), XTs (X.blk s H scope (compEnvC scope cl C X.env) fp) ec W0 ifs mt)
    (hi1 : ∀ (s : Shared) (H : Hp) (C : Addr) (cl : List (Str × Addr)) (fp : List Addr), XI (X.blk s H scope (compEnvC scope cl C X.env) fp) ec W0 tg1 iter1 mi1)
    (hg1 : ∀ (s : Shared) (H : Hp) (C : Addr) (cl : List (Str × Addr)) (fp : List Addr), PG (X.blk s H scope (compEnvC scope cl C X.env) fp) tg1 g1) (ht1 : TgS X.K g1 t1 vs1)
    (hif1 : ∀ (s : Shared) (H : Hp) (C : Addr) (cl : List (Str × Addr)) (fp : List Addr), XTs (X.blk s H scope (compEnvC scope cl C X.env) fp) ec W0 ifs1 mt1)
    (he : ∀ (s : Shared) (H : Hp) (C : Addr) (cl : List (Str × Addr)) (fp : List Addr), XE (X.blk s H scope (compEnvC scope cl C X.env) fp) ec W0 elt me) (hs : ∀ x, foldedSetIterable iter X.env x = pure x := by intro _; rfl) (hs1 : ∀ env x, foldedSetIterable iter1 env x = pure x := by intro _ _; rfl)
    (hy : X.N[i]? = some y := by rfl) (hyl : X.env.scope.names.lookup y = some .local := by rfl) (hsw : swapsWith (.ListComp elt [⟨tg, iter, ifs, 0⟩, ⟨tg1, iter1, ifs1, 0⟩] scope pos) (some (.Name y py)) spos.line X.env = pure true) :
    XS X ec W (.Assign [.Name y py] (.ListComp elt [⟨tg, iter, ifs, 0⟩, ⟨tg1, iter1, ifs1, 0⟩] scope pos) spos) (sSet i (mLc2 (own.map (·.2)) vs1 t mi mt t1 mi1 mt1 me)) := imS (ps_setLc2 (tt := rd X.K ec RelB W0 mt) (te := rd X.K ec (Rel X.K) W0 me) (wi1 := rd X.K ec (SeqR X.K) W0 mi1) (tt1 := rd X.K ec RelB W0 mt1) hc hN hy hyl hsw hi ok hv hg (fun s H C cl fp => hif s H C cl fp) (fun s H C cl fp => hi1 s H C cl fp) hg1 (fun s H C cl fp => hif1 s H C cl fp) (fun s H C cl fp => he s H C cl fp) hs hs1) fun D σ H h => by
  obtain ⟨φ, S, ρ, c⟩ := Cs.start h
  refine lc2_red (W := W) (ec := ec) ht ht1 (rd_imp (c.bind (rel1 := Rel X.K) monoC_true) fun x H1 ⟨φ1, S1, a, ra, ex, c1⟩ => ?_)
  obtain ⟨r, e, q⟩ := c1.run
  cases e
  exact q φ1 H1 _ (Ext.refl _ _ _) c1.ok (c1.env.set i ra)
end
end Rf
namespace Rf
open PySem PySem.Spec PyProof.Rows L2 HT
/-! ### t[::-1] -/
section
variable {prog : Program} {w : World} {A : Around} {E : Value → Shared → Prop} {s : Shared}
theorem places_rev (n : Nat) : Builtin.Slice.slicePlaces ((n : Int) - 1) (-1) (-1) = n := by
  unfold Builtin.Slice.slicePlaces
  have h1 : ¬ ((-1 : Int) > 0) := by decide
  simp only [h1, if_false]
  have e : (- -1 : Int) = 1 := by decide
  simp only [e, Int.ediv_one]
  split <;> omega
theorem adjust_rev (n : Nat) : Builtin.Slice.sliceAdjust none none (-1) (n : Int) = ((n : Int) - 1, -1) := by
  first
    | rfl
    | simp [Builtin.Slice.sliceAdjust]
theorem sliceApplied_rev {sl : Addr} {t : Tok} {n : Nat} {Q : Int × Int × Nat → Shared → Prop} (hs : s.heap.IsSliceOf sl .none .none (.int (-1) t))
    (h : Q ((n : Int) - 1, -1, n) s) : wpAny (model prog w) A (Builtin.Slice.sliceApplied (.ref sl) (pure (n : Int))) Q E s := by
  obtain ⟨os, hos, hcs, hds⟩ := id hs
  unfold Builtin.Slice.sliceApplied Builtin.Slice.sliceFields
  refine wpAny_bind (wpAny_bind (wpAny_field hos hds (x := .none) rfl (wpAny_bind (wpAny_field hos hds (x := .none) rfl (wpAny_bind (wpAny_field hos hds (x := .int (-1) t) rfl (wpAny_pure ?_)))))))
  refine wpAny_bind (slicePart_ (.int _ _) ?_)
  show wpAny _ _ (if ((-1 : Int) == 0) = true then _ else _) _ _ s
  rw [if_neg (by decide)]
  refine wpAny_bind (slicePart_ .none (wpAny_bind (slicePart_ .none (wpAny_bind (wpAny_pure ?_)))))
  show wpAny _ _ (match Builtin.Slice.sliceAdjust none none (-1) (n : Int) with | (lo, hi) => pure (lo, (-1 : Int), Builtin.Slice.slicePlaces lo hi (-1))) _ _ s
  rw [adjust_rev n]
  show wpAny _ _ (pure ((n : Int) - 1, (-1 : Int), Builtin.Slice.slicePlaces ((n : Int) - 1) (-1) (-1))) _ _ s
  rw [places_rev]
  exact wpAny_pure h
theorem pick_rev (xs : Array Value) : ((List.range xs.size).filterMap fun (m : Nat) => xs[(((xs.size : Int) - 1) + (m : Int) * (-1)).toNat]?).toArray = xs.toList.reverse.toArray := by
  have h := PySem.W.krv_pick xs
  unfold slicePick at h
  rw [PySem.W.krv_bounds] at h
  rw [← h]
  show _ = ((sliceRange ((xs.size : Int) - 1) (-1) (-1)).filterMap (xs[·]?)).toArray
  rw [PySem.W.krv_sliceRange, List.filterMap_map]
  congr 2
  funext m
  show _ = xs[xs.size - 1 - m]?
  have : (((xs.size : Int) - 1) + (m : Int) * (-1)).toNat = xs.size - 1 - m := by omega
  rw [this]
theorem getItem_tuple_rev {t sl : Addr} {items : Array Value} {k : Tok} {Q : Value → Shared → Prop} (ht : IsTup s.heap t items) (hs : s.heap.IsSliceOf sl .none .none (.int (-1) k))
    (h : Q (.ref s.heap.objs.size) { s with heap := s.heap.push { cls := .type "tuple", data := .seq items.toList.reverse.toArray } })
    (hsz : items.size ≤ sizeLine) : wpAny (model prog w) A (getItem (.ref t) (.ref sl)) Q E s := by
  have htake : sizeOk (.seq items.toList.reverse.toArray) := by
    show items.toList.reverse.toArray.size ≤ sizeLine
    rw [List.size_toArray, List.length_reverse, Array.length_toList]
    omega
  obtain ⟨os, hos, hcs, hds⟩ := id hs
  have hTs : s.TypeIs (.ref sl) "slice" := ⟨os, hos, hcs⟩
  unfold getItem
  try with_reducible refine wpAny_holding ?_
  first | refine wpAny_bind (wpAny_pure ?_) | skip
  refine wpAny_bind (wpAny_sequenceKey ht.typeIs (by decide) ?_)
  refine wpAny_bind (wpAny_callSpecial?_slot (name := Str.ofString "__getitem__") ht.typeIs PyProof.Rows.slot_tuple_getitem
    (wpAny_call_entry PyProof.Rows.slot_tuple_getitem ht.typeIs entry_tuple_getitem ?_ (args_tuple_getitem _ _)))
  show wpAny _ _ (Builtin.Tuple.tupleItemsOf (.ref t) >>= _) _ _ s
  refine wpAny_bind (tupleItemsOf_ ht ?_)
  refine wpAny_bind (wpAny_typeOf hTs ?_)
  rw [if_pos (by decide)]
  refine wpAny_bind (sliceApplied_rev hs ?_)
  have hno : ¬ (((((items.size : Int) - 1)) == 0 && (-1 : Int) == 1 && items.size == items.size) = true) := by
    intro q
    rw [Bool.and_eq_true, Bool.and_eq_true] at q
    have q1 : (-1 : Int) = 1 := eq_of_beq q.1.2
    omega
  show wpAny _ _ (if ((((items.size : Int) - 1)) == 0 && (-1 : Int) == 1 && items.size == items.size) = true then _ else _) _ _ s
  rw [if_neg hno, pick_rev]
  first
    | exact wpAny_bind (m := Builtin.Tuple.tupleExact _) (wpAny_newObj_type (wpAny_pure ⟨_, rfl, wpAny_pure h⟩) htake)
    | exact wpAny_bind (m := Builtin.Tuple.tupleExact _) (wpAny_newObj_type (wpAny_bind (wpAny_pure (wpAny_pure ⟨_, rfl, wpAny_pure h⟩))) htake)
    | exact wpAny_bind (wpAny_bind (m := Builtin.Tuple.tupleExact _) (wpAny_newObj_type (wpAny_pure (wpAny_pure ⟨_, rfl, wpAny_pure h⟩)) htake))
    | exact wpAny_bind (wpAny_bind (m := Builtin.Tuple.tupleExact _) (wpAny_newObj_type (wpAny_pure ⟨_, rfl, wpAny_pure h⟩) htake))
end
/-! ### xs[::-1] of a list or a tuple -/
section
variable {X : Cx} {ec : Str → Value} {W : WX}
def tRevA (K : PySem.W.Frag) (te : TE) : TE := fun σ H Q => te σ H fun x H1 => ∃ a xs, x = .ref a ∧ ((SqL K H1 a xs ∧ ∀ p, H1 p = none → Q (.ref p) (upd H1 p (.lst xs.reverse))) ∨ (SqT K H1 a xs ∧ ∀ p, H1 p = none → Q (.ref p) (upd H1 p (.tup xs.reverse))))
theorem pe_revA {e : Expr} {te : TE} {k : Nat} {p1 p2 p3 pos : Pos} (he : PE X e te) : PE X (.Subscript e (.Slice none none (some (.UnaryOp .USub (.Constant (.int 1) k p1) p2)) p3) pos) (tRevA X.K te) := by
  refine ⟨fun pins s σ H Q I h => ?_⟩
  refine Subscript_ (thn (he.run pins s σ H _ I h) fun v s1 ⟨x, H1, I1, r1, q1⟩ => ?_)
  obtain ⟨a, xs, ex, hq⟩ := q1
  subst ex
  cases r1
  have hst : PO X (some (.UnaryOp .USub (.Constant (.int 1) k p1) p2)) (tPart (tUn (rU fun i => .int (-i)) (tC (.int 1)))) := po_some (pe_un un_neg pe_int)
  refine wpAny_Slice (thn (po_none.run pins s1 σ H1 (fun o H2 => o = none ∧ H2 = H1) I1 ⟨rfl, rfl⟩) fun vl s2 ⟨l, H2, I2, pl, el, e2⟩ => ?_)
  subst el e2
  refine thn (po_none.run pins s2 σ H2 (fun o H3 => o = none ∧ H3 = H2) I2 ⟨rfl, rfl⟩) fun vu s3 ⟨u, H3, I3, pu, eu, e3⟩ => ?_
  subst eu e3
  refine thn (hst.run pins s3 σ H3 (fun o H4 => o = some (-1) ∧ H4 = H3) I3 ⟨1, rfl, -1, rfl, rfl, rfl⟩) fun vs s4 ⟨o, H4, I4, ps, eo, e4⟩ => ?_
  subst eo e4
  have I5 : Inv X pins σ H4 { s4 with heap := s4.heap.push { cls := .type "slice", data := .fields #[vl, vu, vs] } } := I4.kept (t' := s4.toks) fun b ob q => Heap.get?_push_of_some _ q
  rcases hq with ⟨hx, q⟩ | ⟨hx, q⟩
  · obtain ⟨its, r, ht, hz⟩ := I5.list hx
    have hlen := r.length
    show wpAny (model X.prog X.w) X.A (subscriptTail e (.Slice none none (some (.UnaryOp .USub (.Constant (.int 1) k p1) p2)) p3) (.ref a) (.ref s4.heap.objs.size)) (EP X pins σ Q) X.xe { s4 with heap := s4.heap.push { cls := .type "slice", data := .fields #[vl, vu, vs] } }
    refine tail_any (ops := [.ref a, .ref s4.heap.objs.size]) ht.isList.typeIs (PySem.slot_list_getitem.lookup) ?_ (by with_unfolding_all rfl)
    refine wpAny_getItem_list_slice ht.isList (Heap.IsSliceOf.new _ vl vu vs) pl pu ps (by decide) ?_ (by rw [List.size_toArray]; omega)
    rw [PySem.W.krv_pick]
    refine ⟨.ref _, _, I5.laid (t' := s4.toks) (o := .lst xs.reverse) (fun b ob q => Heap.get?_push_of_some _ q) (Nat.le_refl _) ?_, rfl, q _ (I5.hok.fresh (Nat.le_refl _))⟩
    exact ⟨by rw [List.length_reverse]; exact hz, _, 0, r.reverse, Heap.get?_push_size _ rfl⟩
  · obtain ⟨its, r, ht, hz⟩ := I5.tuple hx
    have hlen := r.length
    cases pl
    cases pu
    cases ps with
    | int _ tk =>
    show wpAny (model X.prog X.w) X.A (subscriptTail e (.Slice none none (some (.UnaryOp .USub (.Constant (.int 1) k p1) p2)) p3) (.ref a) (.ref s4.heap.objs.size)) (EP X pins σ Q) X.xe { s4 with heap := s4.heap.push { cls := .type "slice", data := .fields #[.none, .none, .int (-1) tk] } }
    refine tail_any (ops := [.ref a, .ref s4.heap.objs.size]) ht.typeIs (PyProof.Rows.slot_tuple_getitem.lookup) ?_ (by with_unfolding_all rfl)
    refine getItem_tuple_rev ht (Heap.IsSliceOf.new _ _ _ _) ?_ (by rw [List.size_toArray]; omega)
    refine ⟨.ref _, _, I5.laid (t' := s4.toks) (o := .tup xs.reverse) (fun b ob q => Heap.get?_push_of_some _ q) (Nat.le_refl _) ?_, rfl, q _ (I5.hok.fresh (Nat.le_refl _))⟩
    exact ⟨by rw [List.length_reverse]; exact hz, _, r.reverse, IsTup.new _ _⟩
def gRev : G1 := fun a S => match tupOf a with
  | some xs => some (.tup xs.reverse, S)
  | none => (lstOf S a).map fun xs => (.ref S.length, S ++ [.lst xs.reverse])
theorem x_rev {e : Expr} {m : M D} {k : Nat} {p1 p2 p3 pos : Pos} (he : XE X ec W e m) : XE X ec W (.Subscript e (.Slice none none (some (.UnaryOp .USub (.Constant (.int 1) k p1) p2)) p3) pos) (mUn gRev m) := imE (pe_revA he) fun σ H Q h => by
  obtain ⟨φ, S, ρ, c⟩ := Cf.start h
  refine rd_imp (c.bind (rel1 := Rel X.K) monoC_true) fun x H1 ⟨φ1, S1, a, ra, c1⟩ => ?_
  obtain ⟨r', e, q⟩ := c1.run
  cases hg : gRev a S1 with
  | none => rw [hg] at e; cases e
  | some p =>
    obtain ⟨d, S'⟩ := p
    rw [hg] at e
    cases e
    unfold gRev at hg
    split at hg
    · rename_i xs hx
      cases hg
      obtain ⟨p, us, rfl, hs, rs⟩ := tupOf_rel hx ra
      exact ⟨p, us, rfl, .inr ⟨hs, fun p hp => q φ1 _ _ (ext_imm hp) (c1.ok.imm hp) (.tup upd_same (rs.rev.mono c1.ok (ext_imm hp)))⟩⟩
    · rename_i hx
      cases h2 : lstOf S1 a with
      | none => rw [h2] at hg; cases hg
      | some ds =>
        rw [h2] at hg
        cases hg
        obtain ⟨p, us, rfl, hs, rs⟩ := lst_rel c1.ok ra h2
        exact ⟨p, us, rfl, .inl ⟨hs, fun p hp => q _ _ _ (ext_new' hp) (c1.ok.new hp (.lst rs.rev)) rel_new⟩⟩
end
/-! ### max, sum -/
def maxI : List Int → Option Int
  | [] => none
  | x :: r => some (r.foldl max x)
theorem foldl_max_le (x : Int) : ∀ r : List Int, x ≤ r.foldl max x ∧ ∀ y ∈ r, y ≤ r.foldl max x := by
  intro r
  induction r generalizing x with
  | nil => exact ⟨Int.le_refl _, fun _ h => absurd h (by simp)⟩
  | cons a r ih =>
    obtain ⟨h1, h2⟩ := ih (max x a)
    refine ⟨Int.le_trans (Int.le_max_left _ _) h1, fun y hy => ?_⟩
    rcases List.mem_cons.mp hy with rfl | hy
    · exact Int.le_trans (Int.le_max_right _ _) h1
    · exact h2 y hy
theorem foldl_max_mem (x : Int) : ∀ r : List Int, r.foldl max x ∈ x :: r := by
  intro r
  induction r generalizing x with
  | nil => exact List.mem_singleton.mpr rfl
  | cons a r ih =>
    have := ih (max x a)
    rcases List.mem_cons.mp this with e | e
    · rw [List.foldl_cons, e]
      by_cases c : x ≤ a
      · rw [Int.max_eq_right c]; simp
      · rw [Int.max_eq_left (by omega)]; simp
    · rw [List.foldl_cons]
      exact List.mem_cons_of_mem _ (List.mem_cons_of_mem _ e)
theorem maxI_of {ns : List Int} {m k : Int} (h : maxI ns = some k) (h1 : m ∈ ns) (h2 : ∀ y ∈ ns, y ≤ m) : m = k := by
  cases ns with
  | nil => cases h
  | cons x r =>
    cases h
    obtain ⟨q1, q2⟩ := foldl_max_le x r
    have a1 := h2 _ (foldl_max_mem x r)
    have a2 : m ≤ r.foldl max x := by
      rcases List.mem_cons.mp h1 with rfl | hm
      · exact q1
      · exact q2 _ hm
    omega
def gMax2 : GN := fun as S => match as with
  | [.int i, .int j] => some (.int (if j > i then j else i), S)
  | _ => none
def gMaxL : GN := fun as S => match as with
  | [a] => (lstOf S a).bind fun ds => (intsD ds).bind fun ns => (maxI ns).map fun k => (.int k, S)
  | _ => none
def gMax : GN := fun a S => match gMax2 a S with | some z => some z | none => gMaxL a S
def gSumL : GN := fun as S => match as with
  | [a] => (lstOf S a).bind fun ds => (intsD ds).map fun ns => (.int ns.sum, S)
  | _ => none
def gSumT : GN := fun as S => match as with
  | [a] => (tupOf a).bind fun ds => (intsD ds).map fun ns => (.int ns.sum, S)
  | _ => none
def gSum : GN := fun a S => match gSumL a S with | some z => some z | none => gSumT a S
section
variable {X : Cx} {ec : Str → Value} {W : WX}
theorem callS_max2 (hc : X.calm = true) : CallS X (.builtin "max") gMax2 := ⟨_, call_max2 hc, fun φ S H xs as c S' ok ra e Q q => by
  unfold gMax2 at e
  split at e
  · cases e
    cases ra with
    | cons r t =>
      cases r
      cases t with
      | cons r t => cases r; cases t; exact ⟨_, _, rfl, q φ H _ (Ext.refl _ _ _) ok (.int _)⟩
  · cases e⟩
theorem callS_maxL (hc : X.calm = true) : CallS X (.builtin "max") gMaxL := ⟨_, cr_max hc, fun φ S H xs as c S' ok ra e Q q => by
  unfold gMaxL at e
  split at e
  · rename_i a
    obtain ⟨ds, h1, h2⟩ := Option.bind_eq_some_iff.mp e
    obtain ⟨ns, h3, h4⟩ := Option.bind_eq_some_iff.mp h2
    obtain ⟨k, h5, h6⟩ := Option.map_eq_some_iff.mp h4
    cases h6
    cases ra with
    | cons r t =>
      cases t
      obtain ⟨p, us, rfl, hs, rs⟩ := lst_rel ok r h1
      obtain rfl := intsD_rel h3 rs
      refine ⟨p, ns, rfl, hs, ?_, fun m m1 m2 => ?_⟩
      · cases ns with
        | nil => cases h5
        | cons _ _ => exact Nat.succ_pos _
      · rw [maxI_of h5 m1 m2]
        exact q φ H _ (Ext.refl _ _ _) ok (.int _)
  · cases e⟩
theorem callS_max (hc : X.calm = true) : CallS X (.builtin "max") gMax := (callS_max2 hc).or (callS_maxL hc)
theorem callS_sumL (hc : X.calm = true) : CallS X (.builtin "sum") gSumL := ⟨_, cr_sum hc, fun φ S H xs as c S' ok ra e Q q => by
  unfold gSumL at e
  split at e
  · rename_i a
    obtain ⟨ds, h1, h2⟩ := Option.bind_eq_some_iff.mp e
    obtain ⟨ns, h3, h4⟩ := Option.map_eq_some_iff.mp h2
    cases h4
    cases ra with
    | cons r t =>
      cases t
      obtain ⟨p, us, rfl, hs, rs⟩ := lst_rel ok r h1
      obtain rfl := intsD_rel h3 rs
      exact ⟨p, ns, rfl, hs, q φ H _ (Ext.refl _ _ _) ok (.int _)⟩
  · cases e⟩
def rSumT (K : PySem.W.Frag) : List V → Hp → VK → Prop := fun vs H Q => ∃ (a : Addr) (ns : List Int), vs = [V.ref a] ∧ SqT K H a (ns.map V.int) ∧ Q (.int ns.sum) H
theorem cr_sumT (hc : X.calm = true) : CallR X (.builtin "sum") (rSumT X.K) := by
  intro pins s σ H vs us Q I r h
  obtain ⟨a, ns, rfl, hs, q⟩ := h
  obtain ⟨its, rv, hl, _⟩ := I.tuple hs
  rw [Vals.ref1 r]
  have hi := rv.ints
  obtain ⟨xs, e⟩ := hi.allInts.items
  have hn : numsOf (intItems xs).toList = ns := by rw [← e]; exact hi.numsOf
  rw [nums_intItems] at hn
  have hl' : s.heap.IsTuple a (intItems xs) := by rw [← e]; exact hl
  refine PySem.W.ktm_sumG (I.ok.hd hc) hl' fun h' tk t' hk => ⟨.int _, H, I.kept hk, ⟨_, rfl⟩, ?_⟩
  rw [preSum_eq, List.take_of_length_le (by simp), hn]
  exact q
theorem callS_sumT (hc : X.calm = true) : CallS X (.builtin "sum") gSumT := ⟨_, cr_sumT hc, fun φ S H xs as c S' ok ra e Q q => by
  unfold gSumT at e
  split at e
  · rename_i a
    obtain ⟨ds, h1, h2⟩ := Option.bind_eq_some_iff.mp e
    obtain ⟨ns, h3, h4⟩ := Option.map_eq_some_iff.mp h2
    cases h4
    cases ra with
    | cons r t =>
      cases t
      obtain ⟨p, us, rfl, hs, rs⟩ := tupOf_rel h1 r
      obtain rfl := intsD_rel h3 rs
      exact ⟨p, ns, rfl, hs, q φ H _ (Ext.refl _ _ _) ok (.int _)⟩
  · cases e⟩
theorem callS_sum (hc : X.calm = true) : CallS X (.builtin "sum") gSum := (callS_sumL hc).or (callS_sumT hc)
/-! ### max(xs, default=d) -/
theorem reads_ints {h : Heap} : ∀ {us : List Value} {ns : List Int}, IntsAre us ns → ReadsAll h us (ns.map PyData.int) []
  | _, _, .nil => .nil
  | _, _, .cons n t r => by
    rw [List.map_cons]
    exact .cons (.int _ _) (reads_ints r)
theorem alike_ints (ns : List Int) : PySem.W.AlikeAll (ns.map PyData.int) := PySem.W.alikeAll_datum (α := Int) ns
def rMaxD (K : PySem.W.Frag) : List V → List V → Hp → VK → Prop := fun vs zs H Q => ∃ (a : Addr) (ns : List Int) (d : V), vs = [V.ref a] ∧ zs = [d] ∧ SqL K H a (ns.map V.int) ∧ (ns = [] → Q d H) ∧ ∀ k, maxI ns = some k → Q (.int k) H
theorem cr_maxD (hc : X.calm = true) (hu : X.A.units + 1 < cLine) : CallRK X (.builtin "max") [Str.ofString "default"] (rMaxD X.K) := by
  intro pins s σ H vs zs us ws Q I r rz h
  obtain ⟨a, ns, d, rfl, rfl, hs, q0, q1⟩ := h
  obtain rfl := Vals.ref1 r
  obtain ⟨w1, rfl, e1⟩ := vals1 rz
  obtain ⟨its, rv, hl, hz⟩ := I.list hs
  have hi := rv.ints
  show wpAny _ _ (call (.builtin "max") [.ref a] [(Str.ofString "default", w1)]) _ _ _
  refine PySem.W.max_list_default (I.ok.hd hc) hl.isList (xs := ns.map PyData.int) (as := []) (reads_ints hi) (alike_ints ns) (by rw [PyProof.Rows.depthAll_ints]; exact hu) (fun e h' tk hk => ?_) (fun y ys i v h' tk bs e hv hr hk => ?_)
  · exact ⟨d, H, I.kept hk, e1, q0 (List.map_eq_nil_iff.mp e)⟩
  · cases ns with
    | nil => cases e
    | cons n ns =>
      rw [List.map_cons] at e
      cases e
      rw [PySem.W.maxD_ints] at hr
      cases hr
      exact ⟨.int _, H, I.kept hk, ⟨_, rfl⟩, q1 _ rfl⟩
def gMaxD : G2 := fun a d S => (lstOf S a).bind fun ds => (intsD ds).map fun ns => match maxI ns with | some k => (.int k, S) | none => (d, S)
theorem x_maxD {e1 e2 : Expr} {m1 m2 : M D} {x : Str} {p pos kpos : Pos} (hc : X.calm = true) (hu : X.A.units + 1 < cLine) (hm : X.mg x = none) (hv : bootBuiltins x = some (.builtin "max")) (h1 : XE X ec W e1 m1) (h2 : XE X ec W e2 m2) (hg : Gl X x := by rfl) (hn : x ≠ "__name__" := by decide) (hdb : (x == ("__debug__" : Str)) = false := by decide)
    (he : backTo pos (starEach [e1] X.env) = (false, eval e1 X.env) :: backTo pos (starEach [] X.env) := by rfl) (hpl : (backTo pos (starEach [e1] X.env)).any (·.1) = false := by rfl)
    (hall : (backToKw pos (keywordEach [⟨some (Str.ofString "default"), e2, kpos⟩] X.env)).all (·.1.isSome) = true := by rfl) (hnone : (backToKw pos (keywordEach [⟨some (Str.ofString "default"), e2, kpos⟩] X.env)).any (·.1.isNone) = false := by rfl) (hks : (backToKw pos (keywordEach [⟨some (Str.ofString "default"), e2, kpos⟩] X.env)).filterMap (·.1) = [Str.ofString "default"] := by rfl) (hst : starEach [e1] X.env = (false, eval e1 X.env) :: starEach [] X.env := by rfl) :
    XE X ec W (.Call (.Name x p) [e1] [⟨some (Str.ofString "default"), e2, kpos⟩] pos) (mOp gMaxD m1 m2) :=
  imE (pe_callBK (cr_maxD hc hu) hg hm hv (pa_cons h1 pa_nil hst) (pk_cons h2 pk_nil) hn hdb he hpl hall hnone hks) fun σ H Q h => by
    refine rd_op (f := fun _ _ => pure .none) (r := fun x y H Q => rMaxD X.K [x] [y] H Q) (fun φ S H x y a b c S' ok ra rb e Q q => ?_) h
    unfold gMaxD at e
    obtain ⟨ds, h1, h2⟩ := Option.bind_eq_some_iff.mp e
    obtain ⟨ns, h3, h4⟩ := Option.map_eq_some_iff.mp h2
    obtain ⟨p, us, rfl, hs, rs⟩ := lst_rel ok ra h1
    obtain rfl := intsD_rel h3 rs
    refine ⟨p, ns, y, rfl, rfl, hs, fun z => ?_, fun k hk => ?_⟩
    · subst z
      cases h4
      exact q φ H _ (Ext.refl _ _ _) ok rb
    · rw [hk] at h4
      cases h4
      exact q φ H _ (Ext.refl _ _ _) ok (.int _)
end
end Rf
namespace Rf
open PySem PySem.Spec PyProof.Rows L2
/-! ### enumerate(tuple) -/
set_option maxHeartbeats 2000000 in
theorem meets_enumerate_new1 {v : Value} {o : Obj} {H : Heap → Prop} (B : Begins v o H) :
    Meets (Builtin.«enumerate.__new__» ⟨[.type "enumerate", v], []⟩) (fun _ R s => H s.heap ∧
      R (.ok (.ret (.ref (s.heap.push o).objs.size))) { s with heap := (s.heap.push o).push { cls := .type "enumerate", data := .fields #[.none, .bool false, .ref s.heap.objs.size, rawInt 0, .none, .none] } }) :=
  .of_wp fun prog w A R s h => by
    obtain ⟨hp, g, d, tk, os⟩ := s; obtain ⟨h1, h⟩ := h
    have hsub := sub_enumerate
    have q1 : ∀ {A' : Around} {E : Value → Shared → Prop} {Q : Value → Shared → Prop}, Q (.ref hp.objs.size) ⟨(hp.push o), g, d, tk, os⟩ → wpAny (model prog w) A' (pyIter v) Q E ⟨hp, g, d, tk, os⟩ :=
      fun q => B.iter prog w _ _ ⟨hp, g, d, tk, os⟩ _ h1 q
    wp_walk using q1
    refine wpAny_stack_any fun st => wpAny_pure ?_
    split
    · rename_i c _ _ _ _ _
      cases (c == Value.type "enumerate")
      · wp_walk using q1
        exact ⟨_, rfl, h⟩
      · wp_walk using q1
        exact ⟨_, rfl, h⟩
    · wp_walk using q1
      exact ⟨_, rfl, h⟩
section
variable {prog : Program} {w : World} {A : Around} {E : Value → Shared → Prop} {s : Shared}
theorem enum_begins1 {v : Value} {o : Obj} {H : Heap → Prop} {Q : Value → Shared → Prop} (B : Begins v o H) (h1 : H s.heap)
    (h : ∀ h', IsEnum h' (s.heap.objs.size + 1) s.heap.objs.size 0 .none → h'.get? s.heap.objs.size = some o → h'.objs.size = s.heap.objs.size + 2 →
      (∀ b o, s.heap.get? b = some o → h'.get? b = some o) → Q (.ref (s.heap.objs.size + 1)) { s with heap := h' }) :
    wpAny (model prog w) A (call (.type "enumerate") [v]) Q E s := by
  refine callType_new F.called_enumerate (by decide) (F.typeCall_enumerate_1 _) (F.newCall_enumerate_1 _) (fun obj => F.args_object_init_2 obj _) F.entry_enumerate_new
    (meets_enumerate_new1 B) ⟨h1, ?_⟩
  have hz : (s.heap.push o).objs.size = s.heap.objs.size + 1 := Heap.size_push ..
  show _ ∧ _
  rw [hz]
  have he : IsEnum ((s.heap.push o).push { cls := .type "enumerate", data := .fields #[.none, .bool false, .ref s.heap.objs.size, rawInt 0, .none, .none] }) (s.heap.objs.size + 1) s.heap.objs.size 0 .none := by
    have := Heap.get?_push_size (s.heap.push o) (o := { cls := .type "enumerate", data := .fields #[.none, .bool false, .ref s.heap.objs.size, rawInt 0, .none, .none] }) rfl
    rw [hz] at this; exact this
  refine ⟨⟨_, he, rfl⟩, h _ he (Heap.get?_push_of_some _ (Heap.get?_push_size _ B.free)) (by rw [Heap.size_push, hz]) fun b o x => Heap.get?_push_of_some _ (Heap.get?_push_of_some _ x)⟩
end
def IteT (K : PySem.W.Frag) (a : Addr) : It :=
  ⟨fun i H => ∃ (xs : List V) (x : V), SqT K H a xs ∧ xs[i]? = some x, fun i H v H' => ∃ T x, v = .ref T ∧ H T = none ∧ H' = upd H T (.tup [.int (i : Nat), x]) ∧ ∀ xs, SqT K H a xs → xs[i]? = some x, fun i H => ∃ xs : List V, SqT K H a xs ∧ xs.length ≤ i⟩
theorem turn_enumT {P : Program} {w : World} {K : PySem.W.Frag} {elts : List Expr} {kk : Nat} {tpos : Pos} (a e it : Addr) :
    Turn P w K (.Tuple elts kk tpos) (IteT K a) [e, it] e (fun i h => (∃ old, IsEnum h e it ((i : Nat) : Int) old) ∧ h.IsTupleIter it a i ∧ e ≠ it) where
  mem := by simp
  obj := fun i h st b hb => by
    obtain ⟨⟨old, he⟩, ⟨o, ho, hc, hd⟩, _⟩ := st
    have e' : b = e ∨ b = it := by simpa using hb
    rcases e' with z | z
    · rw [z]; exact ⟨_, he, fun v q => nomatch q⟩
    · rw [z]; exact ⟨o, ho, fun v q => by rw [hd] at q; cases q⟩
  keep := fun i h h' st k => let ⟨⟨old, he⟩, hi, hne⟩ := st; ⟨⟨old, k e (by simp) _ he⟩, hi.at fun o q => k it (by simp) o q, hne⟩
  item := by
    intro X hP hw hK hc i pins s σ H E I hf st hg
    subst hP hw hK
    obtain ⟨⟨old, he⟩, hit, hne⟩ := st
    obtain ⟨xs, x, hq, hx⟩ := hg
    obtain ⟨its, rv, p, hz⟩ := I.tuple hq
    obtain ⟨u, hu, ru⟩ := rv.get hx
    have hel : e < s.heap.objs.size := Heap.lt_size he
    have hil : it < s.heap.objs.size := by obtain ⟨_, q, _⟩ := hit; exact Heap.lt_size q
    have hpt : s.heap.IsTuple a its.toArray := p
    have tup_of : ∀ {b : Addr}, (∃ v, s.heap.get? b = some v ∧ v.cls ≠ .type "tuple") → a ≠ b := fun {b} ⟨v, h1, h2⟩ z => by
      obtain ⟨o, ho, hc', _⟩ := hpt
      rw [z, h1] at ho
      cases ho
      exact h2 hc'
    have hai : a ≠ it := tup_of (by obtain ⟨o, ho, hc', _⟩ := hit; exact ⟨o, ho, by rw [hc']; decide⟩)
    have hae : a ≠ e := tup_of ⟨_, he, by show Value.type "enumerate" ≠ Value.type "tuple"; decide⟩
    have hlt : i < its.toArray.size := by
      have := rv.length
      have h2 : i < xs.length := by
        by_cases c : i < xs.length
        · exact c
        · rw [List.getElem?_eq_none (by omega)] at hx; cases hx
      rw [List.size_toArray]
      omega
    refine wpAny_pyNext_enum_itemD (Draws.tuple (A := X.A.in1) (I.ok.hd hc) it a hai its.toArray) he ⟨hit, hpt⟩ hlt hne (by simp [hne, Ne.symm hae]) fun u' h' tk hP ho hst' hT hsz hk => ?_
    have eu : u' = u := by
      have : its.toArray[i]? = some u := by simpa using hu
      rw [this] at hP
      exact (Option.some.inj hP).symm
    subst eu
    obtain ⟨hit', _⟩ := hst'
    refine ⟨_, rfl, wpAny_letOwnedTupleGo_enum (s := { s with heap := h', toks := tk + 1 }) ho fun h'' he' sb => ?_⟩
    have hT2 : h''.get? s.heap.objs.size = some { cls := .type "tuple", data := .seq #[.int i tk, u'] } := (sb.2 _ (Nat.ne_of_gt hel)).trans hT
    have new : ObjOk X.prog X.w (upd H s.heap.objs.size (.tup [.int (i : Nat), x])) h'' s.heap.objs.size (.tup [.int (i : Nat), x]) :=
      ⟨by show 2 ≤ sizeLine; decide, [.int i tk, u'], .cons ⟨_, rfl⟩ (.cons ru .nil), ⟨_, hT2, rfl, _, rfl⟩⟩
    have I1 : Inv X pins σ (upd H s.heap.objs.size (.tup [.int (i : Nat), x])) { s with heap := h'', toks := tk + 1 } :=
      I.turnedNew (ch := [e, it]) (fun b ob hb q => (sb.2 b (fun z => hb (by simp [z]))).trans (hk b ob (fun z => hb (by simp [z])) (fun z => hb (by simp [z])) q)) hf (Nat.le_refl _) new
    refine ⟨.ref s.heap.objs.size, _, I1, rfl, ⟨_, x, rfl, I.hok.fresh (Nat.le_refl _), rfl, fun ys hy => by rw [I.tuple_inj hy hq]; exact hx⟩, ⟨⟨u', ?_⟩, hit'.at fun o q => (sb.2 it (Ne.symm hne)).trans q, hne⟩, fun b hb => ?_⟩
    · have e1 : ((i + 1 : Nat) : Int) = (i : Int) + 1 := by omega
      rw [e1]; exact he'
    · have hb' : b < s.heap.objs.size := by
        have e' : b = e ∨ b = it := by simpa using hb
        rcases e' with z | z
        · rw [z]; exact hel
        · rw [z]; exact hil
      rw [upd_ne (Nat.ne_of_lt hb')]
      exact (hf b hb).1
  done := by
    intro X hP hw hK hc i pins s σ H E I hf st hg
    subst hP hw hK
    obtain ⟨⟨old, he⟩, hit, hne⟩ := st
    obtain ⟨xs, hq, hx⟩ := hg
    obtain ⟨its, rv, p, hz⟩ := I.tuple hq
    obtain ⟨f0, f1, f2, f3, f4, f5⟩ := hf it (by simp)
    have hl := rv.length
    have hpt : s.heap.IsTuple a its.toArray := p
    have hT : s.TypeIs (.ref e) "enumerate" := ⟨_, he, rfl⟩
    unfold pyNext
    refine wpAny_bind (wpAny_attempt (wpAny_callSpecial?_slot (name := Str.ofString "__next__") hT F.slot_enumerate_next
      (wpAny_call_entry F.slot_enumerate_next hT F.entry_enumerate_next ?_ (F.args_enumerate_next_1 _))))
    show wpAny _ _ (field (.ref e) 2 >>= _) _ _ _
    refine wpAny_bind (wpAny_field he rfl (x := .ref it) rfl ?_)
    refine wpAny_bind (wpAny_nextOf_tuple_end (I.ok.hd hc) hit hpt (by simp; omega) fun h' x he' hx' => ?_)
    obtain ⟨o, ho, hc'⟩ := hx'
    refine wpAny_bind (wpAny_isInstance (T := "StopIteration") (b := true) ⟨o, ho, hc'⟩ isSubtype_stop ?_)
    exact wpAny_pure ⟨rfl, I.turned (t' := s.toks) (fun b o hb q => he' b o hb q) f0 f1 f3 f4 f5⟩
  self := fun A i s Q E st h => let ⟨⟨_, he⟩, _⟩ := st; wpAny_pyIter_enum he h
def iEnumA (K : PySem.W.Frag) (ta : TA) : TI := fun σ H R => ta σ H fun vs H1 => ∃ a xs, vs = [.ref a] ∧ ((SqL K H1 a xs ∧ R (Ite K a) H1) ∨ (SqT K H1 a xs ∧ R (IteT K a) H1))
theorem pi_enumA {X : Cx} {e : Expr} {ta : TA} {p pos tpos : Pos} {elts : List Expr} {kk : Nat} (hg : Gl X "enumerate") (hm : X.mg "enumerate" = none) (ha : PA X [e] ta) (hs : starEach [e] X.env = [(false, eval e X.env)] := by rfl) :
    PI X (.Tuple elts kk tpos) (.Call (.Name "enumerate" p) [e] [] pos) (iEnumA X.K ta) := by
  refine ⟨fun pins s σ H R I h => ?_⟩
  refine Call_ (ld_blt I hg hm boot_enumerate (PyProof.Rows.callWith_type1 (thn (ha.run pos pins s σ H _ I h) fun us s1 ⟨vs, H1, I1, r1, q1⟩ => ?_) hs rfl))
  obtain ⟨a, xs, ex, hq⟩ := q1
  subst ex
  cases r1 with
  | cons r rr =>
    cases rr
    cases r
    have fp : ∀ b ∈ [s1.heap.objs.size + 1, s1.heap.objs.size], s1.heap.objs.size ≤ b := fun b hb => by
      have e' : b = s1.heap.objs.size + 1 ∨ b = s1.heap.objs.size := by simpa using hb
      rcases e' with z | z
      · rw [z]; exact Nat.le_add_right _ _
      · rw [z]; exact Nat.le_refl _
    rcases hq with ⟨hq, q⟩ | ⟨hq, q⟩
    · obtain ⟨its, rv, p', hz⟩ := I1.list hq
      refine call_enumerate_list p'.isList fun h' he hit hsz hk => wpAny_pyIter_enum he ?_
      have I2 : Inv X pins σ H1 { s1 with heap := h' } := I1.kept (t' := s1.toks) hk
      refine ⟨s1.heap.objs.size + 1, [s1.heap.objs.size + 1, s1.heap.objs.size], _, _, H1, rfl, I2, turn_enum a (s1.heap.objs.size + 1) s1.heap.objs.size, ⟨⟨.none, he⟩, hit, Nat.succ_ne_self _⟩, fun b hb => ?_, q⟩
      exact I1.fpOk (fp b hb) (I1.hok.fresh (fp b hb))
    · obtain ⟨its, rv, p', hz⟩ := I1.tuple hq
      refine enum_begins1 (begins_tuple a its.toArray) p' fun h' he hit hsz hk => wpAny_pyIter_enum he ?_
      have I2 : Inv X pins σ H1 { s1 with heap := h' } := I1.kept (t' := s1.toks) hk
      refine ⟨s1.heap.objs.size + 1, [s1.heap.objs.size + 1, s1.heap.objs.size], _, _, H1, rfl, I2, turn_enumT a (s1.heap.objs.size + 1) s1.heap.objs.size, ⟨⟨.none, he⟩, ⟨_, hit, rfl, rfl⟩, Nat.succ_ne_self _⟩, fun b hb => ?_, q⟩
      exact I1.fpOk (fp b hb) (I1.hok.fresh (fp b hb))
theorem seqR_enmT {K : PySem.W.Frag} {φ : Nat → Addr} {n : Nat} {H : Hp} {a : Addr} {p : Sq} (ha : SqC K φ n H (fun H xs => SqT K H a xs) p) : SeqR K φ n H (IteT K a) (enmQ p) := fun φ' S' H' ok ex i => by
  obtain ⟨a1, a2⟩ := ha φ' S' H' ok ex i
  unfold enmQ
  refine ⟨fun d e => ?_, fun e => ?_⟩
  · split at e
    · rename_i x hx
      cases e
      obtain ⟨xs, v, h1, h2, h3⟩ := a1 x hx
      refine ⟨⟨xs, v, h1, h2⟩, fun z H'' hz => ?_⟩
      obtain ⟨T, x', rfl, hT, rfl, g1⟩ := hz
      have e1 := (g1 xs h1).symm.trans h2
      cases e1
      exact ⟨ext_imm hT, ok.imm hT, .tup upd_same (.cons (.int _) (.cons (h3.mono ok (ext_imm hT)) .nil))⟩
    · cases e
    · cases e
  · split at e
    · cases e
    · rename_i hx
      obtain ⟨xs, h1, h2⟩ := a2 hx
      exact ⟨xs, h1, h2⟩
    · cases e
def mEnmA (ms : M (List D)) : M Sq := mB ms fun as _ S => match as with
  | [a] => match sqOf S a with
    | some p => some (.val (enmQ p) S)
    | _ => none
  | _ => none
section
variable {X : Cx} {ec : Str → Value} {W : WX}
theorem xi_enmA {a : Expr} {ms : M (List D)} {p pos tpos : Pos} {elts : List Expr} {kk : Nat} (ha : XA X ec W [a] ms) (hm : X.mg "enumerate" = none) (hg : Gl X "enumerate" := by rfl) (hs : starEach [a] X.env = [(false, eval a X.env)] := by rfl) :
    XI X ec W (.Tuple elts kk tpos) (.Call (.Name "enumerate" p) [a] [] pos) (mEnmA ms) := imI (pi_enumA hg hm ha hs) fun σ H Q h => by
  obtain ⟨φ, S, ρ, c⟩ := Cf.start h
  refine rd_imp (c.bind (rel1 := Rels X.K) monoC_true) fun xs H1 ⟨φ1, S1, as, ra, c1⟩ => ?_
  obtain ⟨r, e, q⟩ := c1.run
  split at e
  · rename_i d1
    split at e
    · rename_i p1 h1
      cases e
      cases ra with
      | cons r1 t1 =>
        cases t1
        obtain ⟨x1, e1, k1, l1⟩ := sqC_of c1.ok r1 h1
        subst e1
        cases hT : isT d1 with
        | false =>
          obtain ⟨⟨us, h3⟩, c3⟩ := l1 hT
          exact ⟨x1, us, rfl, .inl ⟨h3, q φ1 H1 _ (Ext.refl _ _ _) c1.ok (seqR_enm c3)⟩⟩
        | true =>
          obtain ⟨⟨us, h3⟩, c3⟩ := k1 hT
          exact ⟨x1, us, rfl, .inr ⟨h3, q φ1 H1 _ (Ext.refl _ _ _) c1.ok (seqR_enmT c3)⟩⟩
    · cases e
  · cases e
end
/-! ### == of ints or of data -/
def gEqA : G2 := orG gEq gEqX
theorem opS_eqA {X : Cx} {k : Nat} (hr : Room k X.A) : OpS X (compareOp .Eq) gEqA := opS_eq.or (opS_eqX hr)
end Rf
namespace Rf
open PySem PySem.Spec PyProof.Rows L2
/-! ### texts -/
def gStr : GN := fun as S => match as with
  | [.int i] => if i.natAbs.log2 < 1920 then some (.str (toString i), S) else none
  | _ => none
def gFmt : G1 := fun a S => match a with
  | .str y => if y.length ≤ 1000000 then some (.str y, S) else none
  | .int i => if i.natAbs.log2 < 1920 then some (.str (toString i), S) else none
  | _ => none
def mJs : List (M D) → Str → M D
  | [], acc => mRet (.str acc)
  | m :: ms, acc => mB m fun d => match d with
    | .str y => if (acc ++ y).length ≤ 1000000 then mJs ms (acc ++ y) else fun _ _ => none
    | _ => fun _ _ => none
def strsD : List D → Option (List Str)
  | [] => some []
  | .str b :: r => (strsD r).map (b :: ·)
  | _ :: _ => none
theorem rels_strs {K : PySem.W.Frag} {φ : Nat → Addr} {n : Nat} {H : Hp} : ∀ {xs : List V} {ds : List D} {bs : List Str}, Rels K φ n H xs ds → strsD ds = some bs → xs = bs.map V.str
  | _, _, _, .nil, e => by cases e; rfl
  | _, _, _, .cons r t, e => by
    cases r with
    | str b =>
      obtain ⟨bs', h1, h2⟩ := Option.map_eq_some_iff.mp e
      subst h2
      rw [rels_strs t h1]; rfl
    | _ => cases e
def joinOk (y : Str) (ys : List Str) : Bool := decide ((ys.map (·.length)).sum + ys.length * y.length ≤ 16777216)
def gJoin : G2 := fun a b S => match a with
  | .str y => (lstOf S b).bind fun ds => (strsD ds).bind fun ys => if joinOk y ys = true then some (.str (Txt.join y ys), S) else none
  | _ => none
def mJoin (mo me : M D) : M D := mB mo fun a => match a with
  | .str y => mB me fun b _ S => match gJoin (.str y) b S with
    | some (d, S') => some (.val d S')
    | none => none
  | _ => fun _ _ => none
def mOrT (ma mb : M D) : M D := mB ma fun a ρ S => match truD a S with
  | some true => some (.val a S)
  | some false => mb ρ S
  | none => none
section
variable {X : Cx} {ec : Str → Value} {W : WX}
theorem truD_rel {φ : Nat → Addr} {S : Sto} {H : Hp} {x : V} {a : D} {k : Bool} (ok : Ok X.K φ S H) (ra : Rel X.K φ S.length H x a) (hc : truD a S = some k) : TruV X.K x H k := by
  cases ra with
  | non => cases hc; rfl
  | bl b => cases hc; rfl
  | int i => cases hc; rfl
  | str y =>
    unfold truD at hc
    dsimp only at hc
    split at hc
    · cases hc; exact ⟨szl (by assumption), rfl⟩
    · cases hc
  | ty _ => cases hc
  | tup h r => cases hc; exact .inr (.inl ⟨_, .inl (.inl h), by rw [r.empty]⟩)
  | kt _ _ => cases hc
  | fro h r => cases hc; exact .inl ⟨_, h.sq, by rw [r.empty]⟩
  | ref hi =>
    unfold truD at hc
    dsimp only at hc
    split at hc
    · rename_i xs hx
      cases hc
      obtain ⟨us, h1, r1⟩ := ok.lst hx
      exact .inl ⟨us, SqL.of h1, by rw [r1.empty]⟩
    · cases hc
theorem callS_str : CallS X (.type "str") gStr := ⟨_, call_str_int, fun φ S H xs as c S' ok ra e Q q => by
  unfold gStr at e
  split at e
  · split at e
    · rename_i h
      cases e
      cases ra with
      | cons r t => cases r; cases t; exact ⟨_, rfl, h, q φ H _ (Ext.refl _ _ _) ok (.str _)⟩
    · cases e
  · cases e⟩
theorem x_fmt {e : Expr} {m : M D} {pos : Pos} (he : XE X ec W e m) : XE X ec W (.FormattedValue e (-1) none pos) (mUn gFmt m) := imE (pe_fmt he) fun σ H Q h => by
  obtain ⟨φ, S, ρ, c⟩ := Cf.start h
  refine rd_imp (c.bind (rel1 := Rel X.K) monoC_true) fun x H1 ⟨φ1, S1, a, ra, c1⟩ => ?_
  obtain ⟨r', e, q⟩ := c1.run
  cases hg : gFmt a S1 with
  | none => rw [hg] at e; cases e
  | some p =>
    obtain ⟨d, S'⟩ := p
    rw [hg] at e
    cases e
    unfold gFmt at hg
    split at hg
    · split at hg
      · rename_i y hy
        cases hg
        cases ra
        exact .inl ⟨y, rfl, szl hy, q φ1 H1 _ (Ext.refl _ _ _) c1.ok (.str _)⟩
      · cases hg
    · split at hg
      · rename_i i hi
        cases hg
        cases ra
        exact .inr ⟨i, rfl, hi, q φ1 H1 _ (Ext.refl _ _ _) c1.ok (.str _)⟩
      · cases hg
    · cases hg
inductive XJ (X : Cx) (ec : Str → Value) (W : WX) : List Expr → List (M D) → Prop where
  | nil : XJ X ec W [] []
  | cons {e : Expr} {m : M D} {es : List Expr} {ms : List (M D)} (h : XE X ec W e m) (r : XJ X ec W es ms) : XJ X ec W (e :: es) (m :: ms)
theorem XJ.pj {es : List Expr} {ms : List (M D)} (h : XJ X ec W es ms) : PJ X es (ms.map fun m => rd X.K ec (Rel X.K) W m) := by
  induction h with
  | nil => exact .nil
  | cons h r ih => exact .cons h ih
theorem js_rd : ∀ (ms : List (M D)) (acc : Str) (σ : L2.St) (H : Hp) (Q : VK), rd X.K ec (Rel X.K) W (mJs ms acc) σ H Q → tJs (ms.map fun m => rd X.K ec (Rel X.K) W m) acc σ H fun out H1 => Q (.str out) H1
  | [], acc, σ, H, Q, h => rd_ret (fun _ _ _ => .str acc) h
  | m :: ms, acc, σ, H, Q, h => by
    obtain ⟨φ, S, ρ, c⟩ := Cf.start h
    show rd X.K ec (Rel X.K) W m σ H _
    refine rd_imp (c.bind (rel1 := Rel X.K) monoC_true) fun x H1 ⟨φ1, S1, a, ra, c1⟩ => ?_
    cases ra with
    | str y =>
      by_cases hl : (acc ++ y).length ≤ 1000000
      · refine ⟨y, rfl, szl hl, js_rd ms (acc ++ y) σ H1 Q ?_⟩
        have := c1.rest
        dsimp only at this
        rw [if_pos hl] at this
        exact this
      · obtain ⟨r', e, q⟩ := c1.run
        dsimp only at e
        rw [if_neg hl] at e
        cases e
    | _ =>
      obtain ⟨r', e, q⟩ := c1.run
      cases e
theorem x_joined {v1 v2 : Expr} {rest : List Expr} {ms : List (M D)} {pos : Pos} (h : XJ X ec W (v1 :: v2 :: rest) ms) : XE X ec W (.JoinedStr (v1 :: v2 :: rest) pos) (mJs ms Str.empty) := imE (pe_joined h.pj) fun σ H Q h => js_rd ms _ σ H Q h
theorem x_join {o e : Expr} {mo me : M D} {apos pos : Pos} (ho : XE X ec W o mo) (he : XE X ec W e me) (hs : starEach [e] X.env = [(false, eval e X.env)] := by rfl) (hbase : attributeBase o "join" X.env (eval o X.env) = eval o X.env := by rfl) (hline : (apos.endLine == pos.line) = true := by rfl) :
    XE X ec W (.Call (.Attribute o "join" apos) [e] [] pos) (mJoin mo me) := imE (pe_join ho he hs hbase hline) fun σ H Q h => by
  obtain ⟨φ, S, ρ, c⟩ := Cf.start h
  refine rd_imp (c.bind (rel1 := Rel X.K) monoC_true) fun x H1 ⟨φ1, S1, a, ra, c1⟩ => ?_
  cases ra with
  | str y =>
    have c2 : Cf X.K ec (Rel X.K) W (fun _ _ _ => True) φ1 S1 ρ σ H1 Q ((mB me fun b _ S => match gJoin (.str y) b S with
      | some (d, S') => some (R.val d S')
      | none => none) ρ) := c1
    refine ⟨⟨y, rfl⟩, ?_⟩
    refine rd_imp (c2.bind (rel1 := Rel X.K) monoC_true) fun y' H2 ⟨φ2, S2, b, rb, c3⟩ => ?_
    obtain ⟨r', e, q⟩ := c3.run
    cases hg : gJoin (.str y) b S2 with
    | none => rw [hg] at e; cases e
    | some p =>
      obtain ⟨z, S'⟩ := p
      rw [hg] at e
      cases e
      unfold gJoin at hg
      dsimp only at hg
      obtain ⟨ds, h1, h2⟩ := Option.bind_eq_some_iff.mp hg
      obtain ⟨ys, h3, h4⟩ := Option.bind_eq_some_iff.mp h2
      split at h4
      · rename_i hj
        cases h4
        obtain ⟨p, us, rfl, hs, rs⟩ := lst_rel c3.ok rb h1
        obtain rfl := rels_strs rs h3
        exact ⟨y, p, ys, rfl, rfl, .inl hs, of_decide_eq_true hj, q φ2 H2 _ (Ext.refl _ _ _) c3.ok (.str _)⟩
      · cases h4
  | _ =>
    obtain ⟨r', e, q⟩ := c1.run
    cases e
/-- a or b, by what is true of a -/
theorem x_orT {a b : Expr} {rest : List Expr} {ma mb : M D} {pos : Pos} (ha : XE X ec W a ma) (hb : XE X ec W (.BoolOp .Or (b :: rest) pos) mb) : XE X ec W (.BoolOp .Or (a :: b :: rest) pos) (mOrT ma mb) := imE (pe_orT ha hb) fun σ H Q h => by
  obtain ⟨φ, S, ρ, c⟩ := Cf.start h
  refine rd_imp (c.bind (rel1 := Rel X.K) monoC_true) fun x H1 ⟨φ1, S1, a, ra, c1⟩ => ?_
  obtain ⟨r', e, q⟩ := c1.run
  cases hc : truD a S1 with
  | none => rw [hc] at e; cases e
  | some k =>
    rw [hc] at e
    refine ⟨k, truD_rel c1.ok ra hc, ?_⟩
    cases k with
    | true =>
      cases e
      exact iteT (q φ1 H1 _ (Ext.refl _ _ _) c1.ok ra)
    | false => exact iteF ⟨φ1, S1, ρ, c1.ok, c1.env, r', e, q⟩
end
/-! ### reversed(list or tuple) -/
def revQ (n : Nat) (p : Sq) : Sq := fun i S => if i < n then (match p (n - 1 - i) S with | some (some d) => some (some d) | _ => none) else some none
def mRevA (m : M D) : M Sq := mB m fun a _ S => match sqOf S a, itemsOf S a with
  | some p, some ds => some (.val (revQ ds.length p) S)
  | _, _ => none
section
variable {K : PySem.W.Frag} {φ : Nat → Addr} {S : Sto} {H : Hp}
theorem rev_rel {v : V} {d : D} {ds : List D} (ok : Ok K φ S H) (r : Rel K φ S.length H v d) (hi : itemsOf S d = some ds) : ∃ a xs, v = .ref a ∧ xs.length = ds.length ∧ (isT d = true → SqT K H a xs) ∧ (isT d = false → SqL K H a xs) := by
  cases r with
  | @tup a xs ds' h1 r1 => cases hi; exact ⟨a, xs, rfl, r1.len, fun _ => .inl (.inl h1), fun z => by cases z⟩
  | @kt a xs ds' h1 r1 => cases hi; exact ⟨a, xs, rfl, r1.len, fun _ => .inr h1, fun z => by cases z⟩
  | @fro a xs ds' h1 r1 => cases hi; exact ⟨a, xs, rfl, r1.len, fun z => (by cases z), fun _ => h1.sq⟩
  | @ref j hj =>
    unfold itemsOf at hi
    dsimp only at hi
    split at hi
    · rename_i xs hx
      cases hi
      obtain ⟨us, h1, r1⟩ := ok.lst hx
      exact ⟨_, us, rfl, r1.len, fun z => (by cases z), fun _ => SqL.of h1⟩
    · cases hi
  | _ => cases hi
theorem seqR_revL {n m : Nat} {a : Addr} {p : Sq} (ha : SqC K φ n H (fun H xs => SqL K H a xs) p) : SeqR K φ n H (Itv K a m) (revQ m p) := fun φ' S' H' ok ex i => by
  obtain ⟨a1, a2⟩ := ha φ' S' H' ok ex (m - 1 - i)
  unfold revQ
  refine ⟨fun d e => ?_, fun e => ?_⟩
  · split at e
    · rename_i hlt
      split at e
      · rename_i x hx
        cases e
        obtain ⟨xs, v, h1, h2, h3⟩ := a1 _ hx
        refine ⟨⟨hlt, xs, v, h1, h2⟩, fun z H'' hz => ?_⟩
        obtain ⟨rfl, g1⟩ := hz
        have e1 := (g1 xs h1).symm.trans h2
        cases e1
        exact ⟨Ext.refl _ _ _, ok, h3⟩
      · cases e
    · cases e
  · split at e
    · split at e <;> cases e
    · rename_i hlt
      exact Nat.le_of_not_lt hlt
theorem seqR_revT {n m : Nat} {a : Addr} {p : Sq} (ha : SqC K φ n H (fun H xs => SqT K H a xs) p) : SeqR K φ n H (RT.ItvT K a m) (revQ m p) := fun φ' S' H' ok ex i => by
  obtain ⟨a1, a2⟩ := ha φ' S' H' ok ex (m - 1 - i)
  unfold revQ
  refine ⟨fun d e => ?_, fun e => ?_⟩
  · split at e
    · rename_i hlt
      split at e
      · rename_i x hx
        cases e
        obtain ⟨xs, v, h1, h2, h3⟩ := a1 _ hx
        refine ⟨⟨hlt, xs, v, h1, h2⟩, fun z H'' hz => ?_⟩
        obtain ⟨rfl, g1⟩ := hz
        have e1 := (g1 xs h1).symm.trans h2
        cases e1
        exact ⟨Ext.refl _ _ _, ok, h3⟩
      · cases e
    · cases e
  · split at e
    · split at e <;> cases e
    · rename_i hlt
      exact Nat.le_of_not_lt hlt
end
section
variable {X : Cx} {ec : Str → Value} {W : WX}
theorem xi_revA {tg a : Expr} {m : M D} {p pos : Pos} (ha : XE X ec W a m) (hm : X.mg "reversed" = none) (hg : Gl X "reversed" := by rfl) (hs : starEach [a] X.env = (false, eval a X.env) :: starEach [] X.env := by rfl) :
    XI X ec W tg (.Call (.Name "reversed" p) [a] [] pos) (mRevA m) := imI (RT.pi_revA hg hm ha hs) fun σ H Q h => by
  obtain ⟨φ, S, ρ, c⟩ := Cf.start h
  refine rd_imp (c.bind (rel1 := Rel X.K) monoC_true) fun x H1 ⟨φ1, S1, a, ra, c1⟩ => ?_
  obtain ⟨r, e, q⟩ := c1.run
  split at e
  · rename_i p1 ds h1 h2
    cases e
    obtain ⟨b, xs, e1, e2, e3, e4⟩ := rev_rel c1.ok ra h2
    obtain ⟨b', e1', k1, l1⟩ := sqC_of c1.ok ra h1
    subst e1
    cases e1'
    cases hT : isT a with
    | true =>
      refine ⟨b, xs, rfl, .inr ⟨e3 hT, ?_⟩⟩
      rw [e2]
      exact q φ1 H1 _ (Ext.refl _ _ _) c1.ok (seqR_revT (k1 hT).2)
    | false =>
      refine ⟨b, xs, rfl, .inl ⟨e4 hT, ?_⟩⟩
      rw [e2]
      exact q φ1 H1 _ (Ext.refl _ _ _) c1.ok (seqR_revL (l1 hT).2)
  · cases e
/-! ### += of texts -/
def giAddS : G2 := orG giAdd (gS (fun i j => decide (i.length + j.length ≤ 1000000)) fun i j => .str (i ++ j))
theorem opS_iaddS : OpS X (inplaceOp .Add) giAddS := opS_iadd.or (by
  refine ⟨_, iop_add_str, fun φ S H x y a b d S' ok ra rb e Q q => ?_⟩
  unfold gS at e
  split at e
  · split at e
    · rename_i i j h
      cases e
      cases ra
      cases rb
      exact ⟨i, j, rfl, rfl, Nat.le_trans (of_decide_eq_true h) (by decide), q φ H _ (Ext.refl _ _ _) ok (.str _)⟩
    · cases e
  · cases e)
def gNeA : G2 := orG gNe (gEqD true)
theorem opS_neA {k : Nat} (hr : Room k X.A) : OpS X (compareOp .NotEq) gNeA := opS_ne.or (opS_neD hr.units)
end
end Rf
namespace Rf
open PySem PySem.Spec PyProof.Rows L2
/-! ### xs.pop() -/
def mPop (mo : M D) : M D := mB mo fun o _ S => match o with
  | .ref i => match S[i]? with
    | some (.lst xs) => match xs[xs.length - 1]? with
      | some d => some (.val d (S.set i (.lst xs.dropLast)))
      | none => none
    | _ => none
  | _ => none
theorem Rels.dropLast {K : PySem.W.Frag} {φ : Nat → Addr} {n : Nat} {H : Hp} : ∀ {xs : List V} {ds : List D}, Rels K φ n H xs ds → Rels K φ n H xs.dropLast ds.dropLast
  | _, _, .nil => .nil
  | _, _, .cons r .nil => .nil
  | _, _, .cons r (.cons r' t) => .cons r (Rels.dropLast (.cons r' t))
section
variable {X : Cx} {ec : Str → Value} {W : WX}
theorem x_pop {o : Expr} {mo : M D} {apos cpos : Pos} (ho : XE X ec W o mo) (hbase : attributeBase o "pop" X.env (eval o X.env) = eval o X.env := by rfl) (hline : (apos.endLine == cpos.line) = true := by rfl) :
    XE X ec W (.Call (.Attribute o "pop" apos) [] [] cpos) (mPop mo) :=
  imE (pe_bm0 PySem.F.plainAttrs_list PySem.F.slot_list_pop PySem.F.type_list_pop mt_pop ho hbase hline) fun σ H Q h => by
  obtain ⟨φ, S, ρ, c⟩ := Cf.start h
  refine rd_imp (c.bind (rel1 := Rel X.K) monoC_true) fun x H1 ⟨φ1, S1, a, ra, c1⟩ => ?_
  obtain ⟨r, e, q⟩ := c1.run
  cases ra with
  | @ref i hi =>
    dsimp only at e
    split at e
    · rename_i xs hx
      split at e
      · rename_i d hd
        cases e
        obtain ⟨us, h1, r1⟩ := c1.ok.lst hx
        obtain ⟨v, hv, rv⟩ := Rels.get _ r1 hd
        refine ⟨.inl ⟨rfl, us, SqL.of h1⟩, φ1 i, us, v, rfl, rfl, h1, by rw [r1.len]; exact hv, ?_⟩
        have ex := ext_put c1.ok hi (nfL h1) (ho := .lst us.dropLast)
        have hl : (S1.set i (.lst xs.dropLast)).length = S1.length := List.length_set
        refine q φ1 _ _ ?_ (c1.ok.put hi (nfL h1) (.lst (Rels.dropLast r1))) ?_
        · rw [hl]; exact ex
        · rw [hl]; exact rv.mono c1.ok ex
      · cases e
    · cases e
  | _ => cases e
/-! ### range(a, b, -1) -/
def mRngD (ms : M (List D)) : M Sq := mB ms fun as _ S => match as with
  | [.int i, .int j, .int c] => if (rngOk i && rngOk j && decide (c = -1)) = true then some (.val (sqIt (revD (i - ((i - j).toNat : Nat) + 1) (i - j).toNat)) S) else none
  | _ => none
theorem xi_rngD {tg a b c : Expr} {ms : M (List D)} {p pos : Pos} (ha : XA X ec W [a, b, c] ms) (hm : X.mg "range" = none) (hg : Gl X "range" := by rfl)
    (hs : starEach [a, b, c] X.env = (false, eval a X.env) :: starEach [b, c] X.env := by rfl) (hpl : (backTo pos (starEach [b, c] X.env)).any (·.1) = false := by rfl) :
    XI X ec W tg (.Call (.Name "range" p) [a, b, c] [] pos) (mRngD ms) := imI (pi_range3 hg hm ha hs hpl) fun σ H Q h => by
  obtain ⟨φ, S, ρ, c⟩ := Cf.start h
  refine rd_imp (c.bind (rel1 := Rels X.K) monoC_true) fun xs H1 ⟨φ1, S1, as, ra, c1⟩ => ?_
  obtain ⟨r, e, q⟩ := c1.run
  split at e
  · split at e
    · rename_i i j k hj
      cases e
      cases ra with
      | cons r1 t1 =>
        cases r1
        cases t1 with
        | cons r2 t2 =>
          cases r2
          cases t2 with
          | cons r3 t3 =>
            cases r3
            cases t3
            rw [Bool.and_eq_true, Bool.and_eq_true] at hj
            obtain ⟨h1, h2⟩ := rngOk_of hj.1.1
            obtain ⟨h3, h4⟩ := rngOk_of hj.1.2
            have hk := of_decide_eq_true hj.2
            subst hk
            refine ⟨i, j, -1, (i - j).toNat, rfl, RgC.neg (by omega) (by omega) (by omega) (by omega), ?_⟩
            have e : Itc i (-1) (i - j).toNat = Itc (i - ((i - j).toNat : Nat) + 1 + ((i - j).toNat : Nat) - 1) (-1) (i - j).toNat := by
              congr 1; omega
            rw [e]
            exact q φ1 H1 _ (Ext.refl _ _ _) c1.ok seqR_rev
    · cases e
  · cases e
/-! ### xs[i] op= e -/
theorem get_list : PGet X (rIxL X.K) := by
  intro pins s σ H o i ov iv Q I rx ry h
  obtain ⟨p, xs, k, z, rfl, rfl, hq, he, q⟩ := h
  cases rx
  obtain ⟨t, rfl⟩ := ry
  obtain ⟨its, r, pl, hz⟩ := I.list hq
  obtain ⟨j, h1, h2, h3, h4, h5⟩ := atI_get he
  obtain ⟨w, ew, rw'⟩ := r.get h2
  have hl := r.length
  have hn := line63
  have fin : EP X pins σ Q w s := ⟨z, H, I, rw', q⟩
  by_cases h0 : 0 ≤ k
  · have hj : k.toNat = j := by
      rw [seqIndex_of h0 h5] at h1
      exact Option.some.inj h1
    exact wpAny_getItem_list pl.isList h0 (by omega) (by rw [hj]; simpa using ew) fin
  · have hj : (k + (its.toArray.size : Int)).toNat = j := by
      rw [seqIndex_neg (by omega) h4] at h1
      rw [List.size_toArray, ← hl]
      exact Option.some.inj h1
    exact wpAny_getItem_list_neg pl.isList (by omega) (by rw [List.size_toArray] <;> omega) (by omega) (by rw [hj]; simpa using ew) fin
def sLAug (f : Int → Int → Int) (mo mi mv : M D) : MS := sB mo fun o => sB mi fun i ρ S => match lstR S o, intD i with
  | some xs, some k => match atI xs k with
    | some (.int a) => (sB mv fun v ρ S2 => match lstR S2 o, v with
      | some ys, .int b => match ixN ys.length k with
        | some j => some (.nx ρ (S2.set (refOf o) (.lst (ys.set j (.int (f a b))))))
        | none => none
      | _, _ => none) ρ S
    | _ => none
  | _, _ => none
theorem x_laug {o i e : Expr} {mo mi mv : M D} {f : Int → Int → Int} {op : Operator} {pos tpos : Pos} (hp : PIp X op (ipI f)) (ho : XE X ec W o mo) (hi : XE X ec W i mi) (he : XE X ec W e mv) (hA : ∀ ov iv new, augStore i ov iv new = (do holding [new, ov, iv] (setItem ov iv new); release [new, ov, iv] []; pure .next) := by intros; rfl) : XS X ec W (.AugAssign (.Subscript o i tpos) op e pos) (sLAug f mo mi mv) :=
  imS (ps_augS ho hi get_list he hp set_list hA) fun D σ H h => by
  obtain ⟨φ, S, ρ, c⟩ := Cs.start h
  refine rd_imp (c.bind (rel1 := Rel X.K) monoC_true) fun x H1 ⟨φ1, S1, o, ro, ex1, c1⟩ => ?_
  refine rd_imp ((c1.carry (C' := fun φ n H => Rel X.K φ n H x o) ro).bind (rel1 := Rel X.K) monoC_rel) fun y H2 ⟨φ2, S2, i, ri, ex2, c2⟩ => ?_
  obtain ⟨r2, e2, q2⟩ := c2.run
  have co := c2.car
  split at e2
  · rename_i xs k hx hk
    split at e2
    · rename_i a ha
      have hy := intD_rel hk ri
      subst hy
      obtain ⟨id, us, e1, hi1, e3, h1, r1⟩ := lstR_rel c2.ok hx co
      subst e3
      obtain ⟨v, hv, rv⟩ := atI_rels r1 ha
      cases rv
      refine ⟨φ2 id, us, k, .int a, rfl, rfl, SqL.of h1, hv, ?_⟩
      have c3 : Cs X.K ec W (fun φ n H => Rel X.K φ n H (.ref (φ2 id)) o) φ2 S2 ρ σ H2 D (sB mv (fun v ρ S2 => match lstR S2 o, v with
        | some ys, .int b => match ixN ys.length k with
          | some j => some (.nx ρ (S2.set (refOf o) (.lst (ys.set j (.int (f a b))))))
          | none => none
        | _, _ => none) ρ) := ⟨c2.ok, c2.env, co, r2, e2, q2⟩
      refine rd_imp (c3.bind (rel1 := Rel X.K) monoC_rel) fun z H3 ⟨φ3, S3, d3, rd3, ex3, c4⟩ => ?_
      obtain ⟨r3, e4, q3⟩ := c4.run
      have co4 := c4.car
      split at e4
      · rename_i ys b hy2
        split at e4
        · rename_i j hj
          cases e4
          obtain ⟨id3, us3, f1, hi3, f2, h3, r3⟩ := lstR_rel c4.ok hy2 co4
          subst f1
          cases rd3
          refine ⟨a, b, rfl, rfl, ?_⟩
          refine ⟨φ3 id3, us3, k, j, f2, rfl, h3, by rw [r3.len]; exact hj, ?_⟩
          have ex := ext_put c4.ok hi3 (nfL h3) (ho := .lst (us3.set j (.int (f a b))))
          have hl : (S3.set id3 (.lst (ys.set j (.int (f a b))))).length = S3.length := List.length_set
          refine q3 φ3 _ _ ?_ (c4.ok.put hi3 (nfL h3) (.lst (Rels.set (.int _) j r3))) ?_
          · show Ext φ3 S3.length H3 φ3 (S3.set id3 (.lst (ys.set j (.int (f a b))))).length _
            rw [hl]; exact ex
          · show RelE X.K φ3 (S3.set id3 (.lst (ys.set j (.int (f a b))))).length _ ρ σ
            rw [hl]; exact c4.env.mono c4.ok ex
        · cases e4
      · cases e4
    · cases e2
  · cases e2
end
end Rf
namespace Rf
open PySem PySem.Spec PyProof.Rows L2
/-! ### d.setdefault(k, x), keys tuples -/
def rSetdT : V → List V → Hp → VK → Prop := fun x xs H Q => ∃ (a : Addr) (kvs : List (List L2.Key × V)) (k : List L2.Key) (b : Addr) (d : V), x = .ref a ∧ xs = [.ref b, d] ∧ H a = some (.dT kvs) ∧ H b = some (.tup (k.map kV)) ∧ kvs.length < sizeLine ∧
  (∀ v, valV kvs k = some v → Q v H) ∧ (valV kvs k = none → Q d (upd H a (.dT (putK kvs k d))))
theorem mt_setdT {X : Cx} (hu : X.A.units + 1 < cLine) : MtR X "dict.setdefault" rSetdT := by
  intro pins s σ H x xs v us Q I rx rxs h
  obtain ⟨a, kvs, k, b, d, rfl, rfl, ha, hb, hlt, q1, q2⟩ := h
  cases rx
  obtain ⟨u1, u2, rfl, r1, r2⟩ := vals2 rxs
  cases r1
  obtain ⟨z, hd, xs', rel, dd⟩ := dt_of I.hok ha
  have hz : xs'.length ≤ sizeLine := by rw [← Paired.length rel]; exact z
  refine call_setdefault_heap (knd := tupleKind (mixKind X.prog X.w)) (k := k) (tupleKind_room_in1 hu) (key_of I.hok hb) hd dd (fun p hp => ?_) (fun hn h' dd' hs => ?_) hz
  · have r := rel.val k
    rw [hp] at r
    obtain ⟨v0, ev, rv⟩ : ∃ v0, valV kvs k = some v0 ∧ RelV v0 p.2 := by
      cases ev : valV kvs k with
      | none =>
        rw [ev] at r
        exact (show False from r).elim
      | some v0 =>
        rw [ev] at r
        exact ⟨v0, rfl, r⟩
    exact ⟨v0, H, I.tok _, rv, q1 v0 ev⟩
  · have r := rel.val k
    rw [hn] at r
    have e : valV kvs k = none := by
      cases ev : valV kvs k with
      | none => rfl
      | some v0 =>
        rw [ev] at r
        exact (show False from r).elim
    have hl2 : (putK kvs k d).length ≤ sizeLine := by
      have := length_putK kvs k d
      omega
    obtain ⟨q, es, ep, hq, h2, h3, h4, _, h5⟩ := dd'
    have I2 : Inv X pins σ (upd H a (.dT (putK kvs k d))) { s with heap := h', toks := s.toks + (tupleKind (mixKind X.prog X.w)).draws k } :=
      d_write I (by rw [ha]; exact True.intro) hs ⟨q, hq⟩ ⟨hl2, hd, _, (rel.put k hb r2).keeps (fun c ys ec => (by rw [upd_ne (ne_of ec ha (fun z => nomatch z))]; exact ec)), q, es, ep, hq, h2, h3, h4, h5⟩
    exact ⟨d, _, I2, r2, q2 e⟩
def mSetd (mo : M D) (ms : M (List D)) : M D := mB mo fun o ρ S => match dctOf S o with
  | some _ => (mB ms fun as _ S => match as with
    | [k, x] => match dctOf S o, keyD k with
      | some kvs, some ks => if kvs.length < 1000000 then (match valD kvs ks with
        | some d => some (.val d S)
        | none => some (.val x (S.set (refOf o) (.dct (putD kvs ks x))))) else none
      | _, _ => none
    | _ => none) ρ S
  | none => none
section
variable {X : Cx} {ec : Str → Value} {W : WX}
theorem x_setd {o k x : Expr} {mo : M D} {ms : M (List D)} {apos cpos : Pos} (hu : X.A.units + 1 < cLine) (ho : XE X ec W o mo) (ha : XA X ec W [k, x] ms) (hbase : attributeBase o "setdefault" X.env (eval o X.env) = eval o X.env := by rfl)
    (hfew : ((backTo cpos (starEach (k :: [x]) X.env)).all (fun x => !x.1) && (backToKw cpos (keywordEach [] X.env)).all (fun x => x.1.isSome) && decide ((k :: [x]).length + ([] : List Keyword).length + (if ([] : List Keyword).isEmpty then 0 else 1) < 30)) = true := by rfl)
    (hline : (apos.endLine == cpos.line) = true := by rfl) (hs : starEach (k :: [x]) X.env = (false, eval k X.env) :: starEach [x] X.env := by rfl) (hplain : (backTo cpos (starEach [x] X.env)).any (·.1) = false := by rfl) :
    XE X ec W (.Call (.Attribute o "setdefault" apos) [k, x] [] cpos) (mSetd mo ms) :=
  imE (pe_bm PySem.F.plainAttrs_dict PySem.F.slot_dict_setdefault PySem.F.type_dict_setdefault (mt_setdT hu) ho ha hbase hfew hline hs hplain) fun σ H Q h => by
  obtain ⟨φ, S, ρ, c⟩ := Cf.start h
  refine rd_imp (c.bind (rel1 := Rel X.K) monoC_true) fun x0 H1 ⟨φ1, S1, a, ra, c1⟩ => ?_
  obtain ⟨r, e, q⟩ := c1.run
  split at e
  · rename_i kvs0 hd0
    obtain ⟨i, ks0, e1, hi, e2, e3, _, _⟩ := dctOf_rel c1.ok hd0 ra
    refine ⟨by rw [e2]; exact .inr (.inr (.inl ⟨rfl, .inr ⟨ks0, e3⟩⟩)), ?_⟩
    have c2 : Cf X.K ec (Rel X.K) W (fun φ n H => Rel X.K φ n H x0 a) φ1 S1 ρ σ H1 Q ((mB ms fun as _ S => match as with
      | [k, x] => match dctOf S a, keyD k with
        | some kvs, some ks => if kvs.length < 1000000 then (match valD kvs ks with
          | some d => some (.val d S)
          | none => some (.val x (S.set (refOf a) (.dct (putD kvs ks x))))) else none
        | _, _ => none
      | _ => none) ρ) := ⟨c1.ok, c1.env, ra, r, e, q⟩
    refine rd_imp (c2.bind (rel1 := Rels X.K) monoC_rel) fun xs H2 ⟨φ2, S2, as, rs, c3⟩ => ?_
    obtain ⟨r3, e4, q3⟩ := c3.run
    have co := c3.car
    split at e4
    · rename_i k x
      split at e4
      · rename_i kvs ks h1 h2
        split at e4
        · rename_i hsz
          obtain ⟨j, us, f1, hj, f2, f3, f5, f6⟩ := dctOf_rel c3.ok h1 co
          subst f1
          cases rs with
          | cons rk t1 =>
            cases t1 with
            | cons rx t2 =>
              cases t2
              obtain ⟨kb, e7, e8⟩ := keyD_rel h2 rk
              subst e7
              obtain ⟨v1, v2⟩ := val_rel f5 f6 ks
              refine ⟨φ2 j, us, ks, kb, _, f2, rfl, f3, e8, by rw [len_keys f5]; exact Nat.lt_of_lt_of_le hsz (by decide), fun v hv => ?_, fun hn => ?_⟩
              · split at e4
                · rename_i d hd
                  cases e4
                  obtain ⟨v', g1, g2⟩ := v1 d hd
                  rw [g1] at hv
                  cases hv
                  exact q3 φ2 H2 _ (Ext.refl _ _ _) c3.ok g2
                · rename_i hd
                  rw [v2 hd] at hv
                  cases hv
              · split at e4
                · rename_i d hd
                  obtain ⟨v', g1, g2⟩ := v1 d hd
                  rw [g1] at hn
                  cases hn
                · cases e4
                  have hl : (S2.set j (.dct (putD kvs ks x))).length = S2.length := List.length_set
                  refine q3 φ2 _ _ ?_ (c3.ok.put hj (nfD f3) (put_rel rx f5 f6)) ?_
                  · show Ext φ2 S2.length H2 φ2 (S2.set j (.dct (putD kvs ks x))).length _
                    rw [hl]; exact ext_put c3.ok hj (nfD f3)
                  · show Rel X.K φ2 (S2.set j (.dct (putD kvs ks x))).length _ _ _
                    rw [hl]; exact rx.mono c3.ok (ext_put c3.ok hj (nfD f3))
        · cases e4
      · cases e4
    · cases e4
  · cases e
end
end Rf
namespace Rf
open PySem PySem.Spec PyProof.Rows L2
section
variable {X : Cx} {ec : Str → Value} {W : WX}
theorem r65 {k : Nat} {A : Around} (r : Room k A) : A.units + 65 < cLine := by have := r.un; omega
/-! ### x not in a list of data -/
def gNotInD : G2 := fun a b S => match pdOf S 60 a, pdOf S 60 b with
  | some p, some (.list qs) => if SeqAt.shaped p && SeqAt.shaped (.list qs) then some (.bl (!qs.any fun z => PyData.eqv z p), S) else none
  | _, _ => none
theorem opS_notInD {k : Nat} (hr : Room k X.A) (hu : X.A.units + 65 < cLine) : OpS X (compareOp .NotIn) gNotInD := by
  refine ⟨_, op_notInD hu, fun φ S H x y a b d S' ok ra rb e Q q => ?_⟩
  unfold gNotInD at e
  split at e
  · rename_i p qs h1 h2
    split at e
    · rename_i h
      cases e
      rw [Bool.and_eq_true] at h
      exact ⟨p, qs, pd_rel ok _ _ _ _ h1 ra, pd_rel ok _ _ _ _ h2 rb, h.1, h.2, q φ H _ (Ext.refl _ _ _) ok (.bl _)⟩
    · cases e
  · cases e
/-! ### a < b < c -/
def mLtLt (ma mb mc : M D) : M Bool := mB ma fun a => mB mb fun b => match a, b with
  | .int i, .int j => if i < j then (mB mc fun c => match c with
    | .int l => mRet (decide (j < l))
    | _ => fun _ _ => none) else mRet false
  | _, _ => fun _ _ => none
theorem xt_ltlt {a b c : Expr} {ma mb mc : M D} {pos : Pos} (ha : XE X ec W a ma) (hb : XE X ec W b mb) (hc : XE X ec W c mc) (hm : lastMarks [.Lt, .Lt] [b, c] = false := by with_unfolding_all rfl) : XT X ec W (.Compare a [.Lt, .Lt] [b, c] pos) (mLtLt ma mb mc) := by
  refine imT (pt_chain op_lt op_lt ha hb hc hm) fun σ H Q h => ?_
  obtain ⟨φ, S, ρ, c⟩ := Cf.start h
  refine rd_imp (c.bind (rel1 := Rel X.K) monoC_true) fun x H1 ⟨φ1, S1, a, ra, c1⟩ => ?_
  refine rd_imp ((c1.carry ra).bind (rel1 := Rel X.K) monoC_rel) fun y H2 ⟨φ2, S2, b, rb, c2⟩ => ?_
  have key : ∃ i j, a = .int i ∧ b = .int j := by
    obtain ⟨r', e, _⟩ := c2.run
    cases a <;> cases b <;> first | exact ⟨_, _, rfl, rfl⟩ | cases e
  obtain ⟨i, j, rfl, rfl⟩ := key
  have ca := c2.car
  cases ca
  cases rb
  refine ⟨i, j, rfl, rfl, decide (i < j), rfl, ?_⟩
  by_cases hlt : i < j
  · rw [if_pos (decide_eq_true hlt)]
    have c3 : Cf X.K ec RelB W (fun _ _ _ => True) φ2 S2 ρ σ H2 Q ((mB mc fun c => match c with
      | .int l => mRet (decide (j < l))
      | _ => fun _ _ => none) ρ) := by
      have c4 := c2.carry (C' := fun _ _ _ => True) trivial
      dsimp only at c4
      rw [if_pos hlt] at c4
      exact c4
    refine rd_imp (c3.bind (rel1 := Rel X.K) monoC_true) fun z H3 ⟨φ3, S3, c, rc, c5⟩ => ?_
    obtain ⟨r', e, q⟩ := c5.run
    cases rc <;> first | cases e | skip
    exact ⟨j, _, rfl, rfl, _, rfl, q φ3 H3 _ (Ext.refl _ _ _) c5.ok rfl⟩
  · rw [if_neg (fun z => hlt (of_decide_eq_true z))]
    obtain ⟨r', e, q⟩ := c2.run
    dsimp only at e
    rw [if_neg hlt] at e
    cases e
    exact ⟨_, rfl, q φ2 H2 _ (Ext.refl _ _ _) c2.ok rfl⟩
end
end Rf
namespace Rf
open PySem PySem.Spec PyProof.Rows L2
section
variable {X : Cx}
/-! ### comb -/
def combOk (i j : Int) : Bool := decide (0 ≤ i) && decide (i ≤ 1000) && decide (0 ≤ j) && decide (j ≤ 1000)
def gComb : GN := fun as S => match as with
  | [.int i, .int j] => if combOk i j then some (.int (PySem.W.mcComb i j), S) else none
  | _ => none
def rComb : List V → Hp → VK → Prop := fun vs H Q => ∃ a b : Int, vs = [.int a, .int b] ∧ combOk a b = true ∧ Q (.int (PySem.W.mcComb a b)) H
theorem cr_comb : CallR X (.builtin "math.comb") rComb := by
  intro pins s σ H vs us Q I r h
  obtain ⟨a, b, rfl, ha, q⟩ := h
  obtain ⟨t, u, rfl⟩ := Vals.int2 r
  unfold combOk at ha
  simp only [Bool.and_eq_true, decide_eq_true_eq] at ha
  exact call_function_meets PySem.W.MGF.kind_comb PySem.W.MGF.plain_comb PySem.W.MGF.entry_comb (PySem.W.MGF.args_comb _ _) (PySem.W.mc_gives_comb t u (by omega) (by omega) (by omega) (.inl (by omega))).meets ⟨.int _, H, I.tok _, ⟨_, rfl⟩, q⟩
theorem callS_comb : CallS X (.builtin "math.comb") gComb := ⟨_, cr_comb, fun φ S H xs as c S' ok ra e Q q => by
  unfold gComb at e
  split at e
  · split at e
    · rename_i i j h
      cases e
      cases ra with
      | cons r1 t =>
        cases t with
        | cons r2 t2 =>
          cases t2
          cases r1
          cases r2
          exact ⟨_, _, rfl, h, q φ H _ (Ext.refl _ _ _) ok (.int _)⟩
    · cases e
  · cases e⟩
end
end Rf
namespace Rf
open PySem PySem.Spec PyProof.Rows L2
/-! ### for k in d: the dict is locked while it is walked -/
def kDd : Key → D
  | .inl i => .int i
  | .inr x => .str x
def keyDd (k : List Key) : D := .tup (k.map kDd)
def mKeysL (m : M D) : M Sq := mB m fun d _ S => match d with
  | .ref i => match S[i]? with
    | some (.dcl kvs) => some (.val (sqIt (kvs.map fun kv => keyDd kv.1)) S)
    | _ => none
  | _ => none
section
variable {K : PySem.W.Frag} {φ : Nat → Addr} {n : Nat} {H : Hp}
theorem rels_key : ∀ k : List Key, Rels K φ n H (k.map kV) (k.map kDd)
  | [] => .nil
  | .inl i :: k => .cons (.int i) (rels_key k)
  | .inr x :: k => .cons (.str x) (rels_key k)
/-- the lock taken away -/
theorem rdf_unl {d a : Addr} {od : Obj} {us : List (List Key × V)} {ho : HO} (h : H d = some (.frz od (.dT us))) {xs : List V} (r : Fro K φ n H a xs) : Fro K φ n (upd H d ho) a xs := by
  rcases r with ⟨r, hn⟩ | r
  · refine .inl ⟨?_, hn⟩
    rcases r with r | ⟨o, r⟩
    · exact .inl (by rw [upd_ne (fun z => by rw [z, h] at r; cases r)]; exact r)
    · exact .inr ⟨o, by rw [upd_ne (fun z => by rw [z, h] at r; cases r)]; exact r⟩
  · exact .inr r
mutual
theorem rel_unl {d : Addr} {od : Obj} {us : List (List Key × V)} {ho : HO} (h : H d = some (.frz od (.dT us))) : ∀ {v : V} {x : D}, Rel K φ n H v x → Rel K φ n (upd H d ho) v x
  | _, _, .non => .non
  | _, _, .bl b => .bl b
  | _, _, .int i => .int i
  | _, _, .str x => .str x
  | _, _, .ty x => .ty x
  | _, _, .tup g r => .tup (by rw [upd_ne (fun z => by rw [z, h] at g; cases g)]; exact g) (rels_unl h r)
  | _, _, .kt g r => .kt g (rels_unl h r)
  | _, _, .fro g r => .fro (rdf_unl h g) (rels_unl h r)
  | _, _, .ref g => .ref g
theorem rels_unl {d : Addr} {od : Obj} {us : List (List Key × V)} {ho : HO} (h : H d = some (.frz od (.dT us))) : ∀ {v : List V} {x : List D}, Rels K φ n H v x → Rels K φ n (upd H d ho) v x
  | _, _, .nil => .nil
  | _, _, .cons r t => .cons (rel_unl h r) (rels_unl h t)
end
end
section
variable {K : PySem.W.Frag} {φ φ' : Nat → Addr} {S S' : Sto} {H H' : Hp}
theorem ext_unl {i : Nat} {od : Obj} {us : List (List Key × V)} (hi : i < S.length) (h0 : H (φ i) = some (.dT us)) {n' : Nat} (ex : Ext φ S.length (upd H (φ i) (.frz od (.dT us))) φ' n' H') : Ext φ S.length H φ' n' (upd H' (φ i) (.dT us)) where
  le := ex.le
  same := ex.same
  keep := fun a o h hn => by
    have ha : a ≠ φ i := fun z => hn i hi z.symm
    rw [upd_ne ha]
    exact ex.keep a o (by rw [upd_ne ha]; exact h) hn
  new := fun j h1 h2 => by
    have := ex.new j h1 h2
    by_cases c : φ' j = φ i
    · rw [c, upd_same] at this; cases this
    · rw [upd_ne c] at this; exact this
  dom := fun a h => by
    by_cases c : a = φ i
    · rw [c, upd_same]; simp
    · rw [upd_ne c]
      exact ex.dom a (by rw [upd_ne c]; exact h)
  frz := fun a ob u h => by
    have ha : a ≠ φ i := fun z => by rw [z, h0] at h; cases h
    rw [upd_ne ha]
    exact ex.frz a ob u (by rw [upd_ne ha]; exact h)
theorem ok_unl {i : Nat} {od : Obj} {us : List (List Key × V)} {kvs : List (List Key × D)} (hd : H' (φ' i) = some (.frz od (.dT us))) (ok : Ok K φ' S' H') (hi : i < S'.length) (e1 : us.map (·.1) = kvs.map (·.1)) (r : Rels K φ' S'.length (upd H' (φ' i) (.dT us)) (us.map (·.2)) (kvs.map (·.2))) :
    Ok K φ' (S'.set i (.dct kvs)) (upd H' (φ' i) (.dT us)) := by
  refine ⟨fun j o h => ?_, fun a b ha hb z => ok.inj a b (by simpa using ha) (by simpa using hb) z⟩
  rw [List.length_set]
  by_cases c : i = j
  · subst c
    rw [List.getElem?_set_self hi] at h
    cases h
    exact ⟨_, upd_same, .dct e1 r⟩
  · rw [List.getElem?_set_ne c] at h
    have hj : j < S'.length := by
      by_cases q : j < S'.length
      · exact q
      · rw [List.getElem?_eq_none (by omega)] at h; cases h
    obtain ⟨ho, e, ro⟩ := ok.obj j o h
    refine ⟨ho, by rw [upd_ne (ok.ne hj hi (Ne.symm c))]; exact e, ?_⟩
    cases ro with
    | lst r => exact .lst (rels_unl hd r)
    | dct g r => exact .dct g (rels_unl hd r)
    | dcl g r => exact .dcl g (rels_unl hd r)
end
def unlR (i : Nat) (kvs : List (List Key × D)) : RS → Option RS
  | .nx ρ S => some (.nx ρ (S.set i (.dct kvs)))
  | .brk ρ S => some (.brk ρ (S.set i (.dct kvs)))
  | .cnt ρ S => some (.cnt ρ (S.set i (.dct kvs)))
  | .ret d S => some (.ret d (S.set i (.dct kvs)))
  | .exc _ _ _ => none
def sForD (v : Nat) (b : MS) : MS := fun ρ S => match ρ[v]? with
  | some (some (.ref i)) => match S[i]? with
    | some (.dct kvs) => match b ρ (S.set i (.dcl kvs)) with
      | some r => unlR i kvs r
      | none => none
    | _ => none
  | _ => none
section
variable {X : Cx} {ec : Str → Value} {W : WX}
theorem x_keysL {tg e : Expr} {m : M D} (he : XE X ec W e m) : XI X ec W tg e (mKeysL m) := imI (pi_keys he) fun σ H Q h => by
  obtain ⟨φ, S, ρ, c⟩ := Cf.start h
  refine rd_imp (c.bind (rel1 := Rel X.K) monoC_true) fun x H1 ⟨φ1, S1, a, ra, c1⟩ => ?_
  obtain ⟨r, e, q⟩ := c1.run
  split at e
  · rename_i i
    split at e
    · rename_i kvs hk
      cases e
      cases ra with
      | ref hi =>
        obtain ⟨ho, e1, ro⟩ := c1.ok.obj _ _ hk
        cases ro with
        | @dcl ob ks kvs' g1 g2 =>
          refine ⟨φ1 i, ob, rfl, .inr ⟨ks, e1, q φ1 H1 _ (Ext.refl _ _ _) c1.ok ?_⟩⟩
          intro φ' S' H' ok ex j
          have ed := ex.frz _ _ _ e1
          have hl : ks.length = kvs.length := len_keys g1
          refine ⟨fun d e2 => ?_, fun e2 => ?_⟩
          · have e3 : (kvs.map fun kv => keyDd kv.1)[j]? = some d := Option.some.inj e2
            rw [List.getElem?_map] at e3
            obtain ⟨kv, e4, rfl⟩ := Option.map_eq_some_iff.mp e3
            have hj : j < ks.length := by
              rw [hl]
              by_cases z : j < kvs.length
              · exact z
              · rw [List.getElem?_eq_none (by omega)] at e4; cases e4
            refine ⟨⟨ed, hj⟩, fun x H'' y => ?_⟩
            obtain ⟨rfl, k, v, qa, f1, rfl, f2⟩ := y
            refine ⟨Ext.refl _ _ _, ok, ?_⟩
            have f3 : k = kv.1 := by
              have h1 : (ks.map (·.1))[j]? = some k := by rw [List.getElem?_map, f1]; rfl
              rw [g1, List.getElem?_map, e4] at h1
              exact (Option.some.inj h1).symm
            subst f3
            exact .tup f2 (rels_key _)
          · have e3 : (kvs.map fun kv => keyDd kv.1)[j]? = none := Option.some.inj e2
            have := List.getElem?_eq_none_iff.mp e3
            rw [List.length_map] at this
            exact ⟨ed, by omega⟩
    · cases e
  · cases e
theorem x_forD {st : Stmt} {b : MS} (v : Nat) (h : XS X ec W st b) : XS X ec W st (sForD v b) := imS (ps_lock h) fun D σ H q => by
  obtain ⟨φ, S, ρ, ok, env, r, e, ks⟩ := q
  unfold sForD at e
  split at e
  · rename_i i hv
    split at e
    · rename_i kvs hk
      split at e
      · rename_i r0 e0
        have hi : i < S.length := by
          by_cases z : i < S.length
          · exact z
          · rw [List.getElem?_eq_none (by omega)] at hk; cases hk
        obtain ⟨ho, h1, ro⟩ := ok.obj _ _ hk
        cases ro with
        | @dct us _ g1 g2 =>
          refine ⟨φ i, .dT us, h1, trivial, fun od => ?_⟩
          have ex0 : Ext φ S.length H φ S.length (upd H (φ i) (.frz od (.dT us))) := ext_put ok hi (nfD h1)
          have ok1 : Ok X.K φ (S.set i (.dcl kvs)) (upd H (φ i) (.frz od (.dT us))) := ok.put hi (nfD h1) (.dcl g1 g2)
          have hl : (S.set i (.dcl kvs)).length = S.length := List.length_set
          refine ⟨φ, S.set i (.dcl kvs), ρ, ok1, by rw [hl]; exact env.mono ok ex0, r0, e0, ?_⟩
          rw [hl]
          have key : ∀ (φ' : Nat → Addr) (S' : Sto) (H' : Hp), Ext φ S.length (upd H (φ i) (.frz od (.dT us))) φ' S'.length H' → Ok X.K φ' S' H' → H' (φ i) = some (.frz od (.dT us)) ∧ φ' i = φ i ∧ Ext φ S.length H φ' (S'.set i (.dct kvs)).length (upd H' (φ i) (.dT us)) ∧ Ok X.K φ' (S'.set i (.dct kvs)) (upd H' (φ i) (.dT us)) := fun φ' S' H' ex okx => by
            have f1 : H' (φ i) = some (.frz od (.dT us)) := ex.frz _ _ _ upd_same
            have f2 := ex.same i hi
            have f3 := ext_unl hi h1 ex
            have hi' : i < S'.length := Nat.lt_of_lt_of_le hi ex.le
            refine ⟨f1, f2, by rw [List.length_set]; exact f3, ?_⟩
            have f4 := ok_unl (kvs := kvs) (by rw [f2]; exact f1) okx hi' g1 (by rw [f2]; exact g2.mono ok f3)
            rw [f2] at f4
            exact f4
          have envU : ∀ (φ' : Nat → Addr) (n' : Nat) (H' : Hp) (ρ' : Env) (σ' : L2.St), H' (φ i) = some (.frz od (.dT us)) → RelE X.K φ' n' H' ρ' σ' → RelE X.K φ' n' (upd H' (φ i) (.dT us)) ρ' σ' := fun φ' n' H' ρ' σ' f1 en => ⟨en.len, fun j d hd => by
            obtain ⟨v, g, z⟩ := en.at_ j d hd
            exact ⟨v, g, rel_unl f1 z⟩⟩
          cases r0 with
          | nx ρ' S' =>
            cases e
            exact fun φ' H' σ' ex okx en => by
              obtain ⟨f1, f2, f3, f4⟩ := key φ' S' H' ex okx
              exact ⟨f1, ks φ' _ σ' f3 f4 (by rw [List.length_set]; exact envU _ _ _ _ _ f1 en)⟩
          | brk ρ' S' =>
            cases e
            exact fun φ' H' σ' ex okx en => by
              obtain ⟨f1, f2, f3, f4⟩ := key φ' S' H' ex okx
              exact ⟨f1, ks φ' _ σ' f3 f4 (by rw [List.length_set]; exact envU _ _ _ _ _ f1 en)⟩
          | cnt ρ' S' =>
            cases e
            exact fun φ' H' σ' ex okx en => by
              obtain ⟨f1, f2, f3, f4⟩ := key φ' S' H' ex okx
              exact ⟨f1, ks φ' _ σ' f3 f4 (by rw [List.length_set]; exact envU _ _ _ _ _ f1 en)⟩
          | ret d S' =>
            cases e
            exact fun φ' H' v ex okx rv => by
              obtain ⟨f1, f2, f3, f4⟩ := key φ' S' H' ex okx
              exact ⟨f1, ks φ' _ v f3 f4 (by rw [List.length_set]; exact rel_unl f1 rv)⟩
          | exc _ _ _ => cases e
      · cases e
    · cases e
  · cases e
end
end Rf
set_option maxHeartbeats 2000000
namespace Rf
open PySem PySem.Spec PyProof.Rows L2
section
variable {X : Cx} {x n : Str} {c : Value} {i : Nat} {body suite orelse : List Stmt} {b₀ : Stmt} {np pos pos' : Pos}
variable {tb : WX → TS} {ts : Addr → Value → Option Addr → TS} {u : TS} {Wo : WX}
/-- try, except with a name, else -/
theorem ps_tryAsElse (rest : PSs X orelse u)
    (stk : X.stack = X.env :: X.outer) (frm : X.env.frame = some X.env.locals)
    (nod : X.N.Nodup) (slot : X.N[i]? = some n) (loc : X.env.kindOf n = some .local)
    (nam : Names X x c) (out : Takes X Wo)
    (inner : ∀ (W : WX) (pn : List (Addr × Obj)) (xe : Value → Shared → Prop),
      Takes (X.tr pn xe) W → PassesOwn (model X.prog X.w) X.A X.env xe → PSs (X.tr pn xe) body (tb W))
    (hand : ∀ (a : Addr) (oe : Obj) (cls : Value) (d : Option Addr) (pn : List (Addr × Obj)),
      Zc cls d oe → (∃ vs, oe.data = .fields vs) → PSs (X.suite a ((a, oe) :: pn)) (b₀ :: suite) (ts a cls d)) :
    PS X (.Try body [.ExceptHandler (some (.Name x np)) (some n) (b₀ :: suite) pos'] orelse [] pos)
      (fun D σ H => tb (wAs X.K c i ts Wo D) { D with nx := u D } σ H) := by
  constructor
  intro pins s σ H D I pre
  have okX := I.ok
  have frames : X.A.frames = some (X.env :: X.outer) := okX.frames.trans (congrArg some stk)
  apply wpAny_Try_except
  have ran := (inner (wAs X.K c i ts Wo D) (X.pn ++ pins)
    (fun e t1 => wpAny (model X.prog X.w) X.A (noteFrame e X.env)
      (fun _ t2 => wpAny (model X.prog X.w) X.A (setFlight e none)
        (fun _ t3 => wpAny (model X.prog X.w) X.A
          (handleBy e X.env [.ExceptHandler (some (.Name x np)) (some n) (b₀ :: suite) pos'])
          (SP X pins D) X.xe t3) X.xe t2) X.xe t1)
    (fun v s' raised => ?caught) PassesOwn.looking).run [] s σ H { D with nx := u D } (I.toTry _) pre
  case caught =>
    obtain ⟨a, B, sI, pins1, σ1, H1, cls, d, rfl, J1, fresh, grown, sky, notH, own, agr, hit, exm, yes, no⟩ := raised
    have J : Inv X pins σ1 H1 sI := J1.ofTry okX
    have skyX : Sky B (X.env :: X.outer) a (Zc cls d) X.env.locals s'.heap := stk ▸ sky
    refine Sky.land Zc.steady frames frm skyX fun g landed grown2 => ?_
    have Jg : Inv X pins σ1 H1 { s' with heap := g } := J.landed fresh landed.1 (grown.trans grown2) own agr
    obtain ⟨ob, fl, obAt, obZ, obD⟩ := landed.there
    have notFrame : a ∉ frs (X.env :: X.outer) := by
      intro inFr
      obtain ⟨_, ob', at', bad⟩ := landed.2.2.1.mem inFr
      cases obAt.symm.trans at'
      exact bad _ obD
    have notLoc : a ≠ X.env.locals := by
      rintro rfl
      exact notFrame (List.mem_filterMap.mpr ⟨X.env, List.mem_cons_self, frm⟩)
    have notOuter : a ∉ X.fs := by
      intro inFs
      obtain ⟨en, enIn, enFr⟩ := List.mem_filterMap.mp inFs
      exact notFrame (List.mem_filterMap.mpr ⟨en, List.mem_cons_of_mem _ enIn, enFr⟩)
    have inSuite := Jg.suite obAt obD notH notLoc notOuter
    refine wpAny_handleBy_cons (codeAny_handlers_test ?_) (fun q => nomatch q)
    have looks : PySem.W.Looks (model X.prog X.w) g (typeOf (.ref a)) cls := by
      intro A Q E t keep q
      exact wpAny_typeOf_ref (keep _ _ obAt) (obZ.1 ▸ q)
    have asked := PySem.W.exm_one (M := model X.prog X.w) Jg.kIn looks exm
    have named : ∀ {Q : Value → Shared → Prop} {E : Value → Shared → Prop}, Q c { s' with heap := g } →
        wpAny (model X.prog X.w) (X.A.mark (some (.ref a))) (eval (.Name x np) X.env) Q E { s' with heap := g } := by
      intro Q E q
      rcases nam with ⟨gl, nd, m1 | ⟨m2, bv, nn⟩⟩
      · exact ld_glob (X := X.suite a ((a, ob) :: (X.pn ++ pins))) inSuite gl m1 q nd
      · exact ld_blt (X := X.suite a ((a, ob) :: (X.pn ++ pins))) inSuite gl m2 bv q nn nd
    refine named (asked.here ?_)
    cases hit
    case true =>
      refine codeAny_handlers_suite_as (HandSPX.lands_againZ landed fun g2 landed2 grown3 => ?_)
      have Jg2 : Inv X pins σ1 H1 { s' with heap := g2 } := J.landed fresh landed2.1 ((grown.trans grown2).trans grown3) own agr
      obtain ⟨ob2, fl2, ob2At, ob2Z, ob2D⟩ := landed2.there
      have in2 := Jg2.suite ob2At ob2D notH notLoc notOuter
      refine store_ok (X := X.suite a ((a, ob2) :: (X.pn ++ pins))) (v := .ref a) in2 nod slot (.inl loc) rfl (fun t5 in5 => ?_) (.inr loc)
      have went := (hand a ob2 cls d (X.pn ++ pins) ob2Z ⟨_, ob2D⟩).run [] t5 _ H1 _ in5 (yes rfl a notH)
      refine wpAny_mono went (fun f t6 left => ?_) (fun _ _ z => z.elim)
      have leave : ∀ {σ6 : L2.St} {H6 : Hp} {G : Shared → Prop}, Inv (X.suite a ((a, ob2) :: (X.pn ++ pins))) [] σ6 H6 t6 →
          (∀ t7, Inv X pins (σ6.set i none) H6 t7 → G t7) →
          wpAny (model X.prog X.w) X.A (do bindName X.env n .none; unbindBehindTheSuite X.env n pos') (fun _ t7 => G t7) X.xe t6 :=
        fun in6 then_ => gone_ok (in6.unsuite okX) nod slot loc then_
      cases f
      case next =>
        obtain ⟨_, _, in6, q⟩ := left
        exact leave in6 fun _ J7 => ⟨_, _, J7, q⟩
      case brk =>
        obtain ⟨_, _, in6, q⟩ := left
        exact leave in6 fun _ J7 => ⟨_, _, J7, q⟩
      case cont =>
        obtain ⟨_, _, in6, q⟩ := left
        exact leave in6 fun _ J7 => ⟨_, _, J7, q⟩
      case ret r =>
        obtain ⟨_, _, _, in6, rel, q⟩ := left
        exact leave in6 fun _ J7 => ⟨_, _, _, J7, rel, q⟩
    case false =>
      refine wpAny_handleBy_nil ?_
      obtain ⟨_, _, _, oe, vs, T, oT, tl, at_, z_, d_, first_, more⟩ := id landed
      unfold PySem.passOn
      refine wpAny_bind (wpAny_field at_ d_ first_ ?_)
      rw [if_neg (show ¬ ((Value.ref T == Value.none) = true) from by simp)]
      have on : wpAny (model X.prog X.w) X.A (setFlight (.ref a) X.env.frame)
          (fun _ t4 => wpAny (model X.prog X.w) X.A (throw (.ref a) : Sem Flow) (SP X pins D) X.xe t4) X.xe { s' with heap := g } := by
        rw [frm]
        refine HandSPX.setFlight_upZ landed fun g4 rose grown4 => wpAny_throw (out _ _ ?_)
        exact ⟨a, B, sI, pins, σ1, H1, cls, d, rfl, J, fresh, (grown.trans grown2).trans grown4, .inr (.inr (stk.symm ▸ rose)), notH, own, agr, no rfl⟩
      first
        | exact wpAny_bind (wpAny_pure (wpAny_bind on))
        | exact wpAny_bind on
  refine wpAny_mono ran (fun f t1 left => ?_) (fun _ _ z => z)
  cases f
  case next =>
    obtain ⟨σ1, H1, J1, q⟩ := left
    exact rest.run pins t1 σ1 H1 D (J1.ofTry okX) q
  case brk =>
    obtain ⟨σ1, H1, J1, q⟩ := left
    exact ⟨σ1, H1, J1.ofTry okX, q⟩
  case cont =>
    obtain ⟨σ1, H1, J1, q⟩ := left
    exact ⟨σ1, H1, J1.ofTry okX, q⟩
  case ret r =>
    obtain ⟨v, σ1, H1, J1, rel, q⟩ := left
    exact ⟨v, σ1, H1, J1.ofTry okX, rel, q⟩
end
section
variable {X : Cx} {ec : Str → Value} {W : WX} {P : L2.St → Prop}
/-! ### tests that may look at a slot of which the values tell nothing -/
def XTp (P : L2.St → Prop) (X : Cx) (ec : Str → Value) (W : WX) (e : Expr) (m : M Bool) : Prop := PT X e (fun σ H Q => P σ ∧ rd X.K ec RelB W m σ H Q)
def XWp (P : L2.St → Prop) (X : Cx) (ec : Str → Value) (W : WX) (e : Expr) (m : M Bool) : Prop := PW X e (fun σ H Q => P σ ∧ rd X.K ec RelB W m σ H Q)
theorem xtp_of {e : Expr} {m : M Bool} (h : XT X ec W e m) : XTp P X ec W e m := imT h fun σ H Q q => q.2
theorem XWp.xt {e : Expr} {m : M Bool} (h : XWp P X ec W e m) : XTp P X ec W e m := PW.pt h
theorem xtp_not {a : Expr} {ma : M Bool} {pos : Pos} (ha : XTp P X ec W a ma) : XTp P X ec W (.UnaryOp .Not a pos) (mNotB ma) := imT (pt_not ha) fun σ H Q h => ⟨h.1, by
  obtain ⟨φ, S, ρ, c⟩ := Cf.start h.2
  refine rd_imp (c.bind (rel1 := RelB) monoC_true) fun x H1 ⟨φ1, S1, a, ra, c1⟩ => ?_
  cases ra
  exact c1.ret rfl rfl⟩
theorem xwp_or1 {a : Expr} {ma : M Bool} {pos : Pos} (ha : XTp P X ec W a ma) : XWp P X ec W (.BoolOp .Or [a] pos) ma := pw_or1 ha
theorem xwp_or {a b : Expr} {rest : List Expr} {ma mb : M Bool} {pos : Pos} (ha : XTp P X ec W a ma) (hb : XWp P X ec W (.BoolOp .Or (b :: rest) pos) mb) : XWp P X ec W (.BoolOp .Or (a :: b :: rest) pos) (mOr ma mb) := imW (pw_or ha hb) fun σ H Q h => ⟨h.1, by
  obtain ⟨φ, S, ρ, c⟩ := Cf.start h.2
  refine rd_imp (c.bind (rel1 := RelB) monoC_true) fun x H1 ⟨φ1, S1, k, ra, c1⟩ => ?_
  cases ra
  cases x with
  | true => exact iteT (c1.ret rfl rfl)
  | false => exact iteF ⟨h.1, c1.rest⟩⟩
/-- isinstance(e, C): what the suite holds is an instance of the class E -/
theorem xtp_isE {a E C : Addr} {oe : Obj} {pn : List (Addr × Obj)} {i : Nat} {n x : Str} {b : Bool} {p p1 p2 pos : Pos} (CE : ExcC X.K E) (hz : Zc (.ref E) none oe) (hf : ∃ vs, oe.data = .fields vs) (hkit : PySem.W.kitOne X.K (.ref E) (.ref C) = some b)
    (hm : X.mg "isinstance" = none) (hx : X.mg x = some (.ref C)) (hN : X.N[i]? = some n := by rfl) (hv : Vis X.env.scope n := by first | exact Or.inl rfl | exact Or.inr (Or.inl rfl) | exact Or.inr (Or.inr rfl)) (hgx : Gl X x := by rfl) (hg : Gl X "isinstance" := by rfl)
    (hd : (n == ("__debug__" : Str)) = false := by decide) (hcd : (n == ("__classdict__" : Str)) = false := by decide) (hdx : (x == ("__debug__" : Str)) = false := by decide)
    (he : starEach [.Name n p1, .Name x p2] X.env = (false, eval (.Name n p1) X.env) :: starEach [.Name x p2] X.env := by rfl) (hpl : (backTo pos (starEach [.Name x p2] X.env)).any (·.1) = false := by rfl)
    (he2 : starEach [.Name x p2] X.env = (false, eval (.Name x p2) X.env) :: starEach [] X.env := by rfl)
    (hw : ∀ whole, isTrue (.Call (.Name "isinstance" p) [.Name n p1, .Name x p2] [] pos) X.env whole = (do let v ← whole; standAt (Expr.pos (.Call (.Name "isinstance" p) [.Name n p1, .Name x p2] [] pos)); holding [v] (truthy v)) := by intro _; rfl) :
    XTp (fun σ => σ[i]? = some (some (.ref a))) (X.suite a ((a, oe) :: pn)) ec W (.Call (.Name "isinstance" p) [.Name n p1, .Name x p2] [] pos) (mRet b) := by
  have args := pa_cons (X := X.suite a ((a, oe) :: pn)) (pe_var (X := X.suite a ((a, oe) :: pn)) (pos := p1) hN hv hd hcd) (pa_cons (pe_glob (X := X.suite a ((a, oe) :: pn)) (pos := p2) (v := .ref C) hgx hx rfl hdx) pa_nil he2) he
  refine imT (pt_val (pe_callB (X := X.suite a ((a, oe) :: pn)) (call_isE CE hz hf) hg hm rfl args (by decide) (by decide) he hpl) hw) fun σ H Q h => ?_
  obtain ⟨hs, φ, S, ρ, ok, env, r, e, q⟩ := h
  cases e
  exact ⟨.ref a, hs, .ref C, .ref C, b, rfl, fun u hu => hu, hkit, b, rfl, q φ H b (Ext.refl _ _ _) ok rfl⟩
theorem xsp_if {c : Expr} {a b : List Stmt} {mc : M Bool} {ma mb : MS} {pos : Pos} (hc : XTp P X ec W c mc) (ha : XSs X ec W a ma) (hb : XSs X ec W b mb) : PS X (.If c a b pos) (fun D σ H => P σ ∧ rdS X.K ec W (sIf mc ma mb) D σ H) := imS (ps_if hc ha hb) fun D σ H h => ⟨h.1, by
  obtain ⟨φ, S, ρ, c⟩ := Cs.start h.2
  refine rd_imp (c.bind (rel1 := RelB) monoC_true) fun x H1 ⟨φ1, S1, a, ra, ex, c1⟩ => ?_
  cases ra
  cases x with
  | true => exact iteT c1.rest
  | false => exact iteF c1.rest⟩
theorem kit_of {K : PySem.W.Frag} {E C : Addr} {b : Bool} (h1 : PySem.W.isClsIn K C = true) (h2 : PySem.W.typeIn K (.ref C) = some (.type "type")) (h3 : PySem.W.subIn K (.ref E) (.ref C) = some b) (h4 : PySem.W.subIn K (.ref E) (.ref E) = some true) : PySem.W.kitOne K (.ref E) (.ref C) = some b := by
  unfold PySem.W.kitOne
  split
  · rename_i hc
    have e : Value.ref E = Value.ref C := eq_of_beq hc
    have e' : E = C := Value.ref.inj e
    subst e'
    rw [h4] at h3
    exact h3
  · have h1' : (PySem.W.clsIn K C).isSome = true := h1
    show (if ((PySem.W.clsIn K C).isSome && PySem.W.typeIn K (.ref C) == some (.type "type")) = true then PySem.W.subIn K (.ref E) (.ref C) else none) = some b
    rw [if_pos (by rw [h1', h2] <;> rfl)]
    exact h3
/-- try, except with a name, else: in the clause the name's slot tells nothing -/
def sTryE (b : MS) (x : Str) (i : Nat) (h o : MS) : MS := fun ρ S => match b ρ S with
  | some (.exc c ρ' S') => if c = x then (match h (ρ'.set i none) S' with
    | some (.nx ρ1 S1) => some (.nx (ρ1.set i none) S1)
    | some (.brk ρ1 S1) => some (.brk (ρ1.set i none) S1)
    | some (.cnt ρ1 S1) => some (.cnt (ρ1.set i none) S1)
    | some (.ret d S1) => some (.ret d S1)
    | _ => none) else none
  | some (.nx ρ' S') => o ρ' S'
  | r => r
theorem x_tryE {x n : Str} {c : Value} {i : Nat} {body suite orelse : List Stmt} {b₀ : Stmt} {np pos pos' : Pos} {b h o : MS} (hs : X.stack = X.env :: X.outer) (hf : X.env.frame = some X.env.locals) (hN : X.N.Nodup) (hc : Names X x c) (tk : Takes X W) (hec : ec x = c)
    (hm : PySem.W.exmOne X.K c c = some true)
    (hb : ∀ (W' : WX) (pn : List (Addr × Obj)) (xe : Value → Shared → Prop), Takes (X.tr pn xe) W' → PassesOwn (model X.prog X.w) X.A X.env xe → XSs (X.tr pn xe) ec W' body b)
    (hh : ∀ (W' : WX) (a : Addr) (oe : Obj) (pn : List (Addr × Obj)), Zc c none oe → (∃ vs, oe.data = Data.fields vs) → PSs (X.suite a ((a, oe) :: pn)) (b₀ :: suite) (fun D σ H => σ[i]? = some (some (.ref a)) ∧ rdS X.K ec W' h D σ H))
    (ho : XSs X ec W orelse o) (hi : X.N[i]? = some n := by rfl) (hl : X.env.kindOf n = some .local := by rfl) :
    XS X ec W (.Try body [.ExceptHandler (some (.Name x np)) (some n) (b₀ :: suite) pos'] orelse [] pos) (sTryE b x i h o) := by
  refine imS (ps_tryAsElse (tb := fun W' => rdS X.K ec W' b) (u := rdS X.K ec W o) (ts := fun a cls d D σ H => cls = c ∧ d = none ∧ (∃ σ0 : L2.St, σ = σ0.set i (some (.ref a))) ∧ rdS X.K ec (fun _ _ _ _ => False) h D σ H) (Wo := W) ho hs hf hN hi hl hc tk (fun W' pn xe t p => hb W' pn xe t p) (fun a oe cls d pn z v => ⟨fun pins s σ H D I q => ?_⟩)) fun D σ H q => ?_
  · obtain ⟨rfl, rfl, ⟨σ0, rfl⟩, q2⟩ := q
    have q1 : (σ0.set i (some (V.ref a)))[i]? = some (some (.ref a)) := by
      refine List.getElem?_set_self ?_
      have l := I.len
      rw [List.length_set] at l
      have l2 := (List.getElem?_eq_some_iff.mp hi).1
      have l3 : (X.suite a ((a, oe) :: pn)).N.length = X.N.length := rfl
      omega
    exact (hh (fun _ _ _ _ => False) a oe pn z v).run pins s _ H D I ⟨q1, q2⟩
  · obtain ⟨φ, S, ρ, ok, env, r, e, k⟩ := q
    refine ⟨φ, S, ρ, ok, env, ?_⟩
    unfold sTryE at e
    split at e
    · rename_i c1 ρ' S' e1
      split at e
      · rename_i hx
        subst hx
        refine ⟨_, e1, fun φ' H' σ' ex ok' env' => ⟨true, by rw [hec]; exact hm, fun _ a _ => ?_, fun z => nomatch z⟩⟩
        refine ⟨hec, rfl, ⟨σ', rfl⟩, φ', S', ρ'.set i none, ok', env'.unset i, ?_⟩
        have k' := k.ext ex
        clear k
        split at e
        · rename_i ρ1 S1 e2
          cases e
          exact ⟨_, e2, fun φ2 H2 σ2 ex2 ok2 env2 => k' φ2 H2 _ ex2 ok2 (env2.unset i)⟩
        · rename_i ρ1 S1 e2
          cases e
          exact ⟨_, e2, fun φ2 H2 σ2 ex2 ok2 env2 => k' φ2 H2 _ ex2 ok2 (env2.unset i)⟩
        · rename_i ρ1 S1 e2
          cases e
          exact ⟨_, e2, fun φ2 H2 σ2 ex2 ok2 env2 => k' φ2 H2 _ ex2 ok2 (env2.unset i)⟩
        · rename_i d1 S1 e2
          cases e
          exact ⟨_, e2, fun φ2 H2 v ex2 ok2 rv => k' φ2 H2 v ex2 ok2 rv⟩
        · cases e
      · cases e
    · rename_i ρ' S' e1
      refine ⟨_, e1, fun φ' H' σ' ex ok' env' => ?_⟩
      exact ⟨φ', S', ρ', ok', env', r, e, k.ext ex⟩
    · rename_i hn1 hn2
      refine ⟨r, e, ?_⟩
      cases r with
      | exc c1 ρ' S' => exact absurd e (fun y => hn1 _ _ _ y)
      | nx ρ' S' => exact absurd e (fun y => hn2 _ _ y)
      | ret d S' => exact k
      | brk ρ' S' => exact k
      | cnt ρ' S' => exact k
end
end Rf
namespace Rf
open PySem PySem.Spec PyProof.Rows L2
theorem var0 {d : D} {ρ : Env} {S : Sto} : mVar 0 (some d :: ρ) S = some (.val d S) := rfl
theorem varS {x : Option D} {i : Nat} {ρ : Env} {S : Sto} : mVar (i + 1) (x :: ρ) S = mVar i ρ S := by
  unfold mVar
  rw [List.getElem?_cons_succ]
theorem set0 {α : Type} {x y : α} {ρ : List α} : (x :: ρ).set 0 y = y :: ρ := rfl
theorem setS {α : Type} {x y : α} {i : Nat} {ρ : List α} : (x :: ρ).set (i + 1) y = x :: ρ.set i y := rfl
theorem ixT {k : Nat} {x : D} {xs : List D} {S : Sto} (h : xs[k]? = some x) : gIx (.tup xs) (.int (k : Int)) S = some (x, S) := by
  unfold gIx
  dsimp only
  show (itemsOf S (.tup xs)).bind _ = _
  show (some xs).bind _ = _
  rw [Option.bind_some, atI_nat h]
  rfl
theorem ix0 {x : D} {xs : List D} {S : Sto} : gIx (.tup (x :: xs)) (.int 0) S = some (x, S) := ixT (k := 0) rfl
theorem ix1 {x y : D} {xs : List D} {S : Sto} : gIx (.tup (x :: y :: xs)) (.int 1) S = some (y, S) := ixT (k := 1) rfl
theorem ix2 {x y z : D} {xs : List D} {S : Sto} : gIx (.tup (x :: y :: z :: xs)) (.int 2) S = some (z, S) := ixT (k := 2) rfl
/-- a list of the store -/
theorem ixR {i k : Nat} {x : D} {xs : List D} {S : Sto} (hs : S[i]? = some (.lst xs)) (h : xs[k]? = some x) : gIx (.ref i) (.int (k : Int)) S = some (x, S) := by
  unfold gIx
  dsimp only
  show (itemsOf S (.ref i)).bind _ = _
  have e : itemsOf S (.ref i) = some xs := by
    unfold itemsOf
    dsimp only
    rw [hs]
  rw [e, Option.bind_some, atI_nat h]
  rfl
theorem mul_ii {i j : Int} {S : Sto} (h : mulOk i j = true) : gMul (.int i) (.int j) S = some (.int (i * j), S) := by
  unfold gMul gI
  dsimp only
  rw [if_pos h]
theorem div_ii {i j : Int} {S : Sto} (h : divOk i j = true) : gDiv (.int i) (.int j) S = some (.int (i.fdiv j), S) := by
  unfold gDiv gI
  dsimp only
  rw [if_pos h]
theorem mod_ii {i j : Int} {S : Sto} (h : j ≠ 0) : gMod (.int i) (.int j) S = some (.int (i.fmod j), S) := by
  unfold gMod gI
  dsimp only
  rw [if_pos (decide_eq_true h)]
theorem add_ii {i j : Int} {S : Sto} : gAdd (.int i) (.int j) S = some (.int (i + j), S) := rfl
theorem sub_ii {i j : Int} {S : Sto} : gSub (.int i) (.int j) S = some (.int (i - j), S) := rfl
theorem lt_ii {i j : Int} {S : Sto} : gLt (.int i) (.int j) S = some (.bl (decide (i < j)), S) := rfl
theorem le_ii {i j : Int} {S : Sto} : gLe (.int i) (.int j) S = some (.bl (decide (i ≤ j)), S) := rfl
theorem gt_ii {i j : Int} {S : Sto} : gGt (.int i) (.int j) S = some (.bl (decide (j < i)), S) := rfl
theorem ge_ii {i j : Int} {S : Sto} : gGe (.int i) (.int j) S = some (.bl (decide (j ≤ i)), S) := rfl
theorem eq_ii {i j : Int} {S : Sto} : gEq (.int i) (.int j) S = some (.bl (decide (i = j)), S) := rfl
theorem ne_ii {i j : Int} {S : Sto} : gNe (.int i) (.int j) S = some (.bl (!decide (i = j)), S) := rfl
theorem neg_i {i : Int} {S : Sto} : gNeg (.int i) S = some (.int (-i), S) := rfl
theorem gcd_ii {i j : Int} {S : Sto} : gGcd [.int i, .int j] S = some (.int ((Nat.gcd i.natAbs j.natAbs : Nat) : Int), S) := rfl
theorem abs_i {i : Int} {S : Sto} : gAbs [.int i] S = some (.int (if i < 0 then -i else i), S) := rfl
theorem int_i {i : Int} {S : Sto} : gInt [.int i] S = some (.int i, S) := rfl
theorem int_b {k : Bool} {S : Sto} : gInt [.bl k] S = some (.int (if k then 1 else 0), S) := rfl
theorem tru_b {k : Bool} {S : Sto} : truD (.bl k) S = some k := rfl
/-- a choice by a test -/
theorem sIf_tt {c : M Bool} {a b : MS} {ρ : Env} {S S1 : Sto} (h : c ρ S = some (.val true S1)) : sIf c a b ρ S = a ρ S1 := by unfold sIf sB; rw [h]
end Rf
namespace Rf
open PySem PySem.Spec PyProof.Rows L2
theorem loopW_true {c : M Bool} {b : MS} {n : Nat} {ρ ρ' : Env} {S S1 S' : Sto} (hc : c ρ S = some (.val true S1)) (hb : b ρ S1 = some (.nx ρ' S')) : loopW c b (n + 1) ρ S = loopW c b n ρ' S' := by
  rw [loopW]
  simp only [hc, hb]
theorem loopW_false {c : M Bool} {b : MS} {n : Nat} {ρ : Env} {S S1 : Sto} (hc : c ρ S = some (.val false S1)) : loopW c b (n + 1) ρ S = some (.nx ρ S1) := by
  rw [loopW]
  simp only [hc]
/-- a for over items that stand -/
def forI (t : Tgt) (b : MS) : List D → MS
  | [] => fun ρ S => some (.nx ρ S)
  | x :: xs => fun ρ S => match t x ρ S with
    | none => none
    | some ρ1 => match b ρ1 S with
      | some (.nx ρ' S') => forI t b xs ρ' S'
      | some (.cnt ρ' S') => forI t b xs ρ' S'
      | some (.brk ρ' S') => some (.nx ρ' S')
      | r => r
theorem loopQ_items {t : Tgt} {b : MS} {xs : List D} : ∀ (n i : Nat) (ρ : Env) (S : Sto), xs.length - i < n → loopQ t b (sqIt xs) n i ρ S = forI t b (xs.drop i) ρ S
  | 0, i, ρ, S, h => absurd h (by omega)
  | n + 1, i, ρ, S, h => by
    rw [loopQ]
    by_cases c : i < xs.length
    · have ih := fun ρ S => loopQ_items (t := t) (b := b) (xs := xs) n (i + 1) ρ S (by omega)
      rw [List.drop_eq_getElem_cons c]
      have e1 : sqIt xs i S = some (some xs[i]) := by
        unfold sqIt
        rw [List.getElem?_eq_getElem c]
      simp only [e1, forI]
      cases h1 : t xs[i] ρ S with
      | none => rfl
      | some ρ1 =>
        dsimp only
        cases h2 : b ρ1 S with
        | none => rfl
        | some r =>
          cases r with
          | nx ρ' S' => exact ih ρ' S'
          | cnt ρ' S' => exact ih ρ' S'
          | brk ρ' S' => rfl
          | ret d S' => rfl
          | exc c ρ' S' => rfl
    · have e1 : sqIt xs i S = some none := by
        unfold sqIt
        rw [List.getElem?_eq_none (by omega)]
      rw [List.drop_eq_nil_of_le (by omega)]
      simp only [e1]
      rfl
theorem for_items {t : Tgt} {it : M Sq} {b : MS} {ρ : Env} {S S1 : Sto} {xs : List D} (h : it ρ S = some (.val (sqIt xs) S1)) (hl : xs.length < fuel) : sFor t it b ρ S = forI t b xs ρ S1 := by
  unfold sFor sB
  rw [h]
  exact loopQ_items fuel 0 ρ S1 (by omega)
theorem forI_nil {t : Tgt} {b : MS} {ρ : Env} {S : Sto} : forI t b [] ρ S = some (.nx ρ S) := rfl
theorem forI_nx {t : Tgt} {b : MS} {x : D} {xs : List D} {ρ ρ1 ρ' : Env} {S S' : Sto} (ht : t x ρ S = some ρ1) (hb : b ρ1 S = some (.nx ρ' S')) : forI t b (x :: xs) ρ S = forI t b xs ρ' S' := by
  rw [forI]
  simp only [ht, hb]
theorem mRng1_eq {ms : M (List D)} {ρ : Env} {S S1 : Sto} {n : Int} (h : ms ρ S = some (.val [.int n] S1)) (hn : rngOk n = true) : mRng1 ms ρ S = some (.val (sqIt (rngD 0 n.toNat)) S1) := by
  unfold mRng1 mB
  rw [h]
  dsimp only
  rw [if_pos hn]
theorem rngD_succ {lo : Int} {n : Nat} : rngD lo (n + 1) = .int lo :: rngD (lo + 1) n := by
  unfold rngD
  rw [List.range_succ_eq_map, List.map_cons, List.map_map]
  congr 1
  · simp
  · apply List.map_congr_left
    intro a _
    show D.int (lo + ((a + 1 : Nat) : Int)) = D.int (lo + 1 + (a : Int))
    congr 1
    omega
theorem get_last {S : Sto} {o : O} {k : Nat} (h : k = S.length) : (S ++ [o])[k]? = some o := by
  subst h
  rw [List.getElem?_append_right (Nat.le_refl _), Nat.sub_self]
  rfl
theorem set_last {S : Sto} {o o' : O} {k : Nat} (h : k = S.length) : (S ++ [o]).set k o' = S ++ [o'] := by
  subst h
  rw [List.set_append_right _ _ (Nat.le_refl _), Nat.sub_self]
  rfl
/-- append to the newest list -/
theorem app_last {mo me : M D} {ρ : Env} {S : Sto} {k : Nat} {xs : List D} {d : D} (hk : k = S.length) (ho : mo ρ (S ++ [.lst xs]) = some (.val (.ref k) (S ++ [.lst xs]))) (he : me ρ (S ++ [.lst xs]) = some (.val d (S ++ [.lst xs]))) (hl : xs.length < 1000000) :
    mApp mo me ρ (S ++ [.lst xs]) = some (.val .non (S ++ [.lst (xs ++ [d])])) := by
  unfold mApp mB
  rw [ho]
  dsimp only
  rw [get_last hk]
  dsimp only
  rw [he]
  dsimp only
  rw [get_last hk]
  dsimp only
  rw [if_pos hl, set_last hk]
theorem pow_1018 {S : Sto} : gPow (.int 10) (.int 18) S = some (.int 1000000000000000000, S) := by
  unfold gPow gI
  simp
end Rf
namespace Rf
open PySem PySem.Spec PyProof.Rows L2
theorem seq_nx {a b : MS} {ρ ρ' : Env} {S S' : Sto} {r : Option RS} (h : a ρ S = some (.nx ρ' S')) (k : b ρ' S' = r) : sSeq a b ρ S = r := by
  unfold sSeq
  rw [h]
  exact k
theorem seq_ret {a b : MS} {ρ : Env} {S S' : Sto} {d : D} (h : a ρ S = some (.ret d S')) : sSeq a b ρ S = some (.ret d S') := by
  unfold sSeq
  rw [h]
theorem fn_ret {n : Nat} {m : MS} {ds : List D} {S S' : Sto} {d : D} (h : m (ds.map some ++ List.replicate (n - ds.length) none) S = some (.ret d S')) : fnOf n m ds S = some (.val d S') := by
  unfold fnOf
  rw [h]
theorem set_eq {i : Nat} {m : M D} {ρ : Env} {S S1 : Sto} {d : D} (h : m ρ S = some (.val d S1)) : sSet i m ρ S = some (.nx (ρ.set i (some d)) S1) := by
  unfold sSet sB
  rw [h]
theorem ret_eq {m : M D} {ρ : Env} {S S1 : Sto} {d : D} (h : m ρ S = some (.val d S1)) : sRet m ρ S = some (.ret d S1) := by
  unfold sRet sB
  rw [h]
theorem if_t {c : M Bool} {a b : MS} {ρ : Env} {S S1 : Sto} {r : Option RS} (h : c ρ S = some (.val true S1)) (k : a ρ S1 = r) : sIf c a b ρ S = r := by
  unfold sIf sB
  rw [h]
  exact k
theorem if_f {c : M Bool} {a b : MS} {ρ : Env} {S S1 : Sto} {r : Option RS} (h : c ρ S = some (.val false S1)) (k : b ρ S1 = r) : sIf c a b ρ S = r := by
  unfold sIf sB
  rw [h]
  exact k
end Rf
namespace Rf
open PySem PySem.Spec PyProof.Rows L2
/-- a comprehension none of whose items is taken -/
theorem loopC_none {t : Tgt} {c : M Bool} {el : M D} {ρ0 : Env} {n0 : Nat} {xs : List D} (h : ∀ x ∈ xs, ∀ S, ∃ ρ1 G, t x ρ0 S = some ρ1 ∧ c ρ1 S = some (.val false (S ++ G))) : ∀ (n i : Nat) (S : Sto), xs.length - i < n → ∃ G, loopC t c el (sqIt xs) ρ0 n0 n i S = some (S ++ G)
  | 0, i, S, hn => absurd hn (by omega)
  | n + 1, i, S, hn => by
    rw [loopC]
    by_cases k : i < xs.length
    · have e1 : sqIt xs i S = some (some xs[i]) := by
        unfold sqIt
        rw [List.getElem?_eq_getElem k]
      obtain ⟨ρ1, G, h1, h2⟩ := h xs[i] (List.getElem_mem k) S
      obtain ⟨G', ih⟩ := loopC_none (el := el) (n0 := n0) h n (i + 1) (S ++ G) (by omega)
      exact ⟨G ++ G', by simp only [e1, h1, h2, ih, List.append_assoc]⟩
    · have e1 : sqIt xs i S = some none := by
        unfold sqIt
        rw [List.getElem?_eq_none (by omega)]
      exact ⟨[], by simp only [e1, List.append_nil]⟩
theorem lc_none {vs : List Nat} {t : Tgt} {it : M Sq} {c : M Bool} {el : M D} {ρ : Env} {S S1 : Sto} {xs : List D} (hi : it ρ S = some (.val (sqIt xs) S1)) (hl : xs.length < fuel) (h : ∀ x ∈ xs, ∀ S, ∃ ρ1 G, t x (wipeE ρ vs) S = some ρ1 ∧ c ρ1 S = some (.val false (S ++ G))) :
    ∃ G, mLc vs t it c el ρ S = some (.val (.ref S1.length) (S1 ++ (.lst [] :: G))) := by
  obtain ⟨G, e⟩ := loopC_none (el := el) (n0 := S1.length) h fuel 0 (S1 ++ [.lst []]) (by omega)
  refine ⟨G, ?_⟩
  unfold mLc mB
  rw [hi]
  dsimp only
  rw [e]
  dsimp only
  rw [List.append_assoc, List.singleton_append]
/-- a comprehension that takes all, each worked out to f of it -/
theorem loopC_all {t : Tgt} {el : M D} {ρ0 : Env} {S0 : Sto} {xs : List D} {f : D → D} (h : ∀ x ∈ xs, ∀ S, ∃ ρ1 G, t x ρ0 S = some ρ1 ∧ el ρ1 S = some (.val (f x) (S ++ G))) (hs : xs.length < 1000) : ∀ (n i : Nat) (acc : List D) (G0 : Sto), xs.length - i < n → acc.length + (xs.length - i) < 1000 → ∃ G, loopC t mYes el (sqIt xs) ρ0 S0.length n i (S0 ++ (.lst acc :: G0)) = some (S0 ++ (.lst (acc ++ (xs.drop i).map f) :: G))
  | 0, i, acc, G0, hn, _ => absurd hn (by omega)
  | n + 1, i, acc, G0, hn, ha => by
    rw [loopC]
    by_cases k : i < xs.length
    · have e1 : sqIt xs i (S0 ++ (.lst acc :: G0)) = some (some xs[i]) := by
        unfold sqIt
        rw [List.getElem?_eq_getElem k]
      obtain ⟨ρ1, G, h1, h2⟩ := h xs[i] (List.getElem_mem k) (S0 ++ (.lst acc :: G0))
      have e3 : (S0 ++ (O.lst acc :: G0) ++ G)[S0.length]? = some (.lst acc) := by
        rw [List.append_assoc, List.getElem?_append_right (Nat.le_refl _), Nat.sub_self]
        rfl
      have e4 : (S0 ++ (O.lst acc :: G0) ++ G).set S0.length (.lst (acc ++ [f xs[i]])) = S0 ++ (.lst (acc ++ [f xs[i]]) :: (G0 ++ G)) := by
        rw [List.append_assoc, List.set_append_right _ _ (Nat.le_refl _), Nat.sub_self]
        rfl
      obtain ⟨G', ih⟩ := loopC_all (S0 := S0) h hs n (i + 1) (acc ++ [f xs[i]]) (G0 ++ G) (by omega) (by rw [List.length_append, List.length_singleton]; omega)
      refine ⟨G', ?_⟩
      have ey : mYes ρ1 (S0 ++ (.lst acc :: G0)) = some (.val true (S0 ++ (.lst acc :: G0))) := rfl
      simp only [e1, h1, ey, h2, e3, if_pos (show acc.length < 1000000 by omega), e4]
      rw [ih, List.append_assoc, List.singleton_append, List.drop_eq_getElem_cons k, List.map_cons]
    · have e1 : sqIt xs i (S0 ++ (.lst acc :: G0)) = some none := by
        unfold sqIt
        rw [List.getElem?_eq_none (by omega)]
      refine ⟨G0, ?_⟩
      rw [List.drop_eq_nil_of_le (by omega), List.map_nil, List.append_nil]
      simp only [e1]
theorem lc_all {vs : List Nat} {t : Tgt} {it : M Sq} {el : M D} {ρ : Env} {S S1 : Sto} {xs : List D} {f : D → D} (hi : it ρ S = some (.val (sqIt xs) S1)) (hl : xs.length < 1000) (h : ∀ x ∈ xs, ∀ S, ∃ ρ1 G, t x (wipeE ρ vs) S = some ρ1 ∧ el ρ1 S = some (.val (f x) (S ++ G))) :
    ∃ G, mLc vs t it mYes el ρ S = some (.val (.ref S1.length) (S1 ++ (.lst (xs.map f) :: G))) := by
  obtain ⟨G, e⟩ := loopC_all (S0 := S1) h hl fuel 0 [] [] (lt_fuel (k := 10) (by omega) (by omega)) (by rw [List.length_nil]; omega)
  refine ⟨G, ?_⟩
  unfold mLc mB
  rw [hi]
  dsimp only
  rw [show S1 ++ [O.lst []] = S1 ++ (O.lst [] :: []) from rfl, e]
  dsimp only
  rw [List.drop_zero, List.nil_append]
theorem isi {a : D} {T n : String} {b : Bool} {S : Sto} (h : tyD S a = some n) (k : kitB n T = some b) : gIsi [a, .ty T] S = some (.bl b, S) := by
  unfold gIsi
  dsimp only
  rw [h, Option.bind_some, k]
  rfl
theorem kit1 : kitB "int" "tuple" = some false := by decide +kernel
theorem kit2 : kitB "int" "list" = some false := by decide +kernel
theorem kit3 : kitB "int" "int" = some true := by decide +kernel
theorem kit4 : kitB "int" "bool" = some false := by decide +kernel
theorem kit5 : kitB "tuple" "tuple" = some true := by decide +kernel
theorem kit6 : kitB "tuple" "list" = some false := by decide +kernel
theorem kit7 : kitB "list" "tuple" = some false := by decide +kernel
theorem kit8 : kitB "list" "list" = some true := by decide +kernel
theorem is_int {i : Int} {S : Sto} {d : D} (h : d = .non ∨ d = .bl true ∨ d = .bl false) : gIs (.int i) d S = some (.bl false, S) := by
  rcases h with rfl | rfl | rfl <;> rfl
end Rf
namespace Rf
open PySem PySem.Spec PyProof.Rows L2
section
variable {ρ : Env} {S S1 S2 S3 : Sto} {a b c d : D} {as : List D} {ma mb m : M D} {ms : M (List D)} {g : G2}
theorem v_var {i : Nat} (h : ρ[i]? = some (some d)) : mVar i ρ S = some (.val d S) := by
  unfold mVar
  rw [h]
theorem v_ret {α : Type} {a : α} : mRet a ρ S = some (.val a S) := rfl
theorem v_op (ha : ma ρ S = some (.val a S1)) (hb : mb ρ S1 = some (.val b S2)) (hg : g a b S2 = some (c, S3)) : mOp g ma mb ρ S = some (.val c S3) := by
  unfold mOp mB
  simp only [ha, hb, hg]
theorem v_un {g : G1} (ha : ma ρ S = some (.val a S1)) (hg : g a S1 = some (c, S2)) : mUn g ma ρ S = some (.val c S2) := by
  unfold mUn mB
  simp only [ha, hg]
theorem v_bi {g : GN} (ha : ms ρ S = some (.val as S1)) (hg : g as S1 = some (c, S2)) : mBi g ms ρ S = some (.val c S2) := by
  unfold mBi mB
  simp only [ha, hg]
theorem v_nil : mNil ρ S = some (.val [] S) := rfl
theorem v_cons (ha : ma ρ S = some (.val a S1)) (hs : ms ρ S1 = some (.val as S2)) : mCons ma ms ρ S = some (.val (a :: as) S2) := by
  unfold mCons mB
  simp only [ha, hs]
  rfl
theorem v_call {F : List D → Sto → Option (R D)} {r : Option (R D)} (ha : ms ρ S = some (.val as S1)) (hF : F as S1 = r) : mCall F ms ρ S = r := by
  unfold mCall mB
  simp only [ha, hF]
theorem v_tup (ha : ms ρ S = some (.val as S1)) (hl : as.length ≤ 1000) : mTup ms ρ S = some (.val (.tup as) S1) := by
  unfold mTup mB
  simp only [ha, if_pos hl]
  rfl
theorem v_lst (ha : ms ρ S = some (.val as S1)) (hl : as.length ≤ 1000) : mLst ms ρ S = some (.val (.ref S1.length) (S1 ++ [.lst as])) := by
  unfold mLst mB
  simp only [ha, if_pos hl]
  rfl
theorem v_T {k : Bool} (ha : ma ρ S = some (.val (.bl k) S1)) : mT ma ρ S = some (.val k S1) := by
  unfold mT mB
  simp only [ha]
  rfl
theorem v_tru {k : Bool} (ha : ma ρ S = some (.val a S1)) (h : truD a S1 = some k) : mTru ma ρ S = some (.val k S1) := by
  unfold mTru mB
  simp only [ha, h]
theorem v_not {m : M Bool} {k : Bool} (h : m ρ S = some (.val k S1)) : mNotB m ρ S = some (.val (!k) S1) := by
  unfold mNotB mB
  simp only [h]
  rfl
theorem v_or_f {m m' : M Bool} {r : Option (R Bool)} (h : m ρ S = some (.val false S1)) (h' : m' ρ S1 = r) : mOr m m' ρ S = r := by
  unfold mOr mB
  simp only [h, h']
theorem v_or_t {m m' : M Bool} (h : m ρ S = some (.val true S1)) : mOr m m' ρ S = some (.val true S1) := by
  unfold mOr mB
  simp only [h]
  rfl
theorem v_and_t {m m' : M Bool} {r : Option (R Bool)} (h : m ρ S = some (.val true S1)) (h' : m' ρ S1 = r) : mAnd m m' ρ S = r := by
  unfold mAnd mB
  simp only [h, h']
theorem v_and_f {m m' : M Bool} (h : m ρ S = some (.val false S1)) : mAnd m m' ρ S = some (.val false S1) := by
  unfold mAnd mB
  simp only [h]
  rfl
theorem v_seq {q : Sq} (ha : ma ρ S = some (.val a S1)) (h : sqOf S1 a = some q) : mSeq ma ρ S = some (.val q S1) := by
  unfold mSeq mB
  simp only [ha, h]
theorem nil_eq : sNil ρ S = some (.nx ρ S) := rfl
theorem ex_eq (ha : ma ρ S = some (.val a S1)) : sEx ma ρ S = some (.nx ρ S1) := by
  unfold sEx sB
  simp only [ha]
/-- if c: .. (not taken, nothing else) -/
theorem skip {mc : M Bool} {x : MS} (h : mc ρ S = some (.val false S1)) : sIf mc x sNil ρ S = some (.nx ρ S1) := if_f h rfl
end
theorem len_tup {xs : List D} {S : Sto} : gLen [.tup xs] S = some (.int xs.length, S) := rfl
theorem len_ref {i : Nat} {xs : List D} {S : Sto} (h : S[i]? = some (.lst xs)) : gLen [.ref i] S = some (.int xs.length, S) := by
  unfold gLen itemsOf
  simp only [h, Option.map_some]
theorem nth_last {S G : Sto} {o : O} : (S ++ (o :: G))[S.length]? = some o := by
  rw [List.getElem?_append_right (Nat.le_refl _), Nat.sub_self]
  rfl
theorem rngOk_nat {n : Nat} (h : n < 2 ^ 60) : rngOk (n : Int) = true := by
  unfold rngOk
  rw [Bool.and_eq_true]
  exact ⟨decide_eq_true (by omega), decide_eq_true (by omega)⟩
theorem rngD_len {lo : Int} {n : Nat} : (rngD lo n).length = n := by
  unfold rngD
  rw [List.length_map, List.length_range]
theorem rngD_mem {n : Nat} {x : D} (h : x ∈ rngD 0 n) : ∃ k : Nat, k < n ∧ x = .int (k : Int) := by
  unfold rngD at h
  obtain ⟨k, hk, e⟩ := List.mem_map.mp h
  exact ⟨k, List.mem_range.mp hk, by rw [← e]; simp⟩
end Rf
namespace Rf
open PySem PySem.Spec PyProof.Rows L2
/-! ### sizes -/
def szI (n : Nat) (i : Int) : Prop := i.natAbs < 2 ^ n
theorem szI.mono {n m : Nat} {i : Int} (h : szI n i) (k : n ≤ m) : szI m i := Nat.lt_of_lt_of_le h (Nat.pow_le_pow_right (by decide) k)
theorem szI.mul {n m : Nat} {i j : Int} (h : szI n i) (k : szI m j) : szI (n + m) (i * j) := by
  unfold szI at *
  rw [Int.natAbs_mul, Nat.pow_add]
  exact Nat.mul_lt_mul'' h k
theorem szI.add {n m : Nat} {i j : Int} (h : szI n i) (k : szI m j) : szI (max n m + 1) (i + j) := by
  have h1 := h.mono (Nat.le_max_left n m)
  have k1 := k.mono (Nat.le_max_right n m)
  unfold szI at *
  rw [Nat.pow_succ]
  omega
theorem szI.neg {n : Nat} {i : Int} (h : szI n i) : szI n (-i) := by
  unfold szI at *
  rw [Int.natAbs_neg]
  exact h
theorem szI.le {n : Nat} {i j : Int} (h : szI n i) (k : j.natAbs ≤ i.natAbs) : szI n j := Nat.lt_of_le_of_lt k h
theorem szI.log {n : Nat} {i : Int} (h : szI n i) (h0 : 0 < n) : i.natAbs.log2 < n := PySem.Flt.log2_lt_of h0 h
theorem mulOk_sz {n m : Nat} {i j : Int} (h : szI n i) (k : szI m j) (h0 : 0 < n := by omega) (k0 : 0 < m := by omega) (s : n + m ≤ 900000 := by omega) : mulOk i j = true := by
  have h1 := h.log h0
  have k1 := k.log k0
  unfold mulOk
  rw [Bool.or_eq_true]
  exact .inr (decide_eq_true (by omega))
theorem divOk_sz {n : Nat} {i j : Int} (z : j ≠ 0) (h : szI n j) (h0 : 0 < n := by omega) (s : n ≤ 9000 := by omega) : divOk i j = true := by
  have h1 := h.log h0
  unfold divOk
  rw [Bool.and_eq_true]
  exact ⟨decide_eq_true z, decide_eq_true (by omega)⟩
/-! ### fractions -/
/-- a number -/
def nq (q : Rat) : D := .tup [.int q.num, .int (q.den : Int)]
def sz (n : Nat) (q : Rat) : Prop := szI n q.num ∧ szI n (q.den : Int)
theorem sz.mono {n m : Nat} {q : Rat} (h : sz n q) (k : n ≤ m) : sz m q := ⟨h.1.mono k, h.2.mono k⟩
theorem nq_of {q : Rat} {n d : Int} (h1 : n = q.num) (h2 : d = (q.den : Int)) : D.tup [.int n, .int d] = nq q := by
  rw [h1, h2]
  rfl
theorem norm_sz {n : Nat} {a : Int} {b : Nat} (hb : b ≠ 0) (ha : szI n a) (h : szI n (b : Int)) : sz n (Rat.normalize a b hb) := by
  rw [Rat.normalize_eq]
  refine ⟨ha.le ?_, h.le ?_⟩
  · show (a / ((a.natAbs.gcd b : Nat) : Int)).natAbs ≤ a.natAbs
    exact Int.natAbs_ediv_le_natAbs _ _
  · show ((b / a.natAbs.gcd b : Nat) : Int).natAbs ≤ ((b : Nat) : Int).natAbs
    exact Nat.div_le_self _ _
theorem sz_add {n m : Nat} {x y : Rat} (hx : sz n x) (hy : sz m y) : sz (n + m + 1) (x + y) := by
  rw [Rat.add_def]
  refine norm_sz _ ?_ ?_
  · have := (hx.1.mul hy.2).add (hy.1.mul hx.2)
    exact this.mono (by omega)
  · have := hx.2.mul hy.2
    rw [Int.natCast_mul]
    exact this.mono (by omega)
theorem sz_mul {n m : Nat} {x y : Rat} (hx : sz n x) (hy : sz m y) : sz (n + m) (x * y) := by
  rw [Rat.mul_def]
  refine norm_sz _ (hx.1.mul hy.1) ?_
  rw [Int.natCast_mul]
  exact hx.2.mul hy.2
theorem sz_neg {n : Nat} {x : Rat} (hx : sz n x) : sz n (-x) := ⟨by rw [Rat.neg_num]; exact hx.1.neg, hx.2⟩
theorem den_ne (q : Rat) : (q.den : Int) ≠ 0 := by
  have := q.den_pos
  omega
theorem gcd_pos_r {a b : Nat} (h : 0 < b) : 0 < a.gcd b := Nat.gcd_pos_of_pos_right _ h
theorem fdiv_nat {a : Int} {g : Nat} : a.fdiv (g : Int) = a / (g : Int) := Int.fdiv_eq_ediv_of_nonneg a (by omega)
/-- the sum, as the program reckons it -/
theorem add_parts (x y : Rat) : (x.den.gcd y.den = 1 → (x + y).num = x.num * y.den + x.den * y.num ∧ ((x + y).den : Int) = x.den * y.den) ∧
    (x.den.gcd y.den ≠ 1 → (x + y).num = (x.num * ((y.den : Int) / (x.den.gcd y.den : Nat)) + y.num * ((x.den : Int) / (x.den.gcd y.den : Nat))) / (((x.num * ((y.den : Int) / (x.den.gcd y.den : Nat)) + y.num * ((x.den : Int) / (x.den.gcd y.den : Nat))).natAbs.gcd (x.den.gcd y.den) : Nat) : Int) ∧
      ((x + y).den : Int) = ((x.den : Int) / (x.den.gcd y.den : Nat)) * ((y.den : Int) / (((x.num * ((y.den : Int) / (x.den.gcd y.den : Nat)) + y.num * ((x.den : Int) / (x.den.gcd y.den : Nat))).natAbs.gcd (x.den.gcd y.den) : Nat) : Int))) := by
  refine ⟨fun h => ?_, fun h => ?_⟩
  · show (Rat.add x y).num = _ ∧ ((Rat.add x y).den : Int) = _
    unfold Rat.add
    simp only [h, dite_true]
    exact ⟨by rw [Int.mul_comm y.num], by rw [Int.natCast_mul]⟩
  · show (Rat.add x y).num = _ ∧ ((Rat.add x y).den : Int) = _
    unfold Rat.add
    simp only [h, dite_false]
    rw [Rat.maybeNormalize_eq]
    simp only [Int.natCast_ediv]
    refine ⟨rfl, ?_⟩
    rw [Int.natCast_mul, Int.natCast_ediv]
    generalize hk : (x.num * ((y.den : Int) / (x.den.gcd y.den : Nat)) + y.num * ((x.den : Int) / (x.den.gcd y.den : Nat))).natAbs.gcd (x.den.gcd y.den) = k
    refine Int.mul_ediv_assoc _ ?_
    have h1 : k ∣ x.den.gcd y.den := by rw [← hk]; exact Nat.gcd_dvd_right _ _
    exact Int.ofNat_dvd.mpr (Nat.dvd_trans h1 (Nat.gcd_dvd_right _ _))
end Rf
namespace Rf
open PySem PySem.Spec PyProof.Rows L2
theorem mul_parts (x y : Rat) : (x * y).num = x.num / ((x.num.natAbs.gcd y.den : Nat) : Int) * (y.num / ((y.num.natAbs.gcd x.den : Nat) : Int)) ∧ ((x * y).den : Int) = (x.den : Int) / ((y.num.natAbs.gcd x.den : Nat) : Int) * ((y.den : Int) / ((x.num.natAbs.gcd y.den : Nat) : Int)) := by
  have e : x * y = Rat.mul x y := rfl
  rw [e]
  unfold Rat.mul
  simp only [Int.divExact_eq_ediv, Nat.divExact_eq_div]
  exact ⟨trivial, by rw [Int.natCast_mul, Int.natCast_ediv, Int.natCast_ediv]⟩
end Rf
namespace Rf
open PySem PySem.Spec PyProof.Rows L2
/-! ### what an evaluation comes to -/
def WV {α : Type} (r : Option (R α)) (Q : α → Sto → Prop) : Prop := ∃ a S, r = some (.val a S) ∧ Q a S
def WS (r : Option RS) (N : Env → Sto → Prop) (T : D → Sto → Prop) (B C : Env → Sto → Prop) : Prop :=
  (∃ ρ S, r = some (.nx ρ S) ∧ N ρ S) ∨ (∃ d S, r = some (.ret d S) ∧ T d S) ∨ (∃ ρ S, r = some (.brk ρ S) ∧ B ρ S) ∨ (∃ ρ S, r = some (.cnt ρ S) ∧ C ρ S)
def WG {α : Type} (r : Option (α × Sto)) (Q : α → Sto → Prop) : Prop := ∃ a S, r = some (a, S) ∧ Q a S
/-- all that stands in the store stands -/
def Keep (S S' : Sto) : Prop := ∀ (i : Nat) (o : O), S[i]? = some o → S'[i]? = some o
theorem Keep.refl (S : Sto) : Keep S S := fun _ _ h => h
theorem Keep.trans {S S1 S2 : Sto} (a : Keep S S1) (b : Keep S1 S2) : Keep S S2 := fun i o h => b i o (a i o h)
theorem Keep.app (S G : Sto) : Keep S (S ++ G) := fun i o h => by
  rw [List.getElem?_append_left (by
    by_cases c : i < S.length
    · exact c
    · rw [List.getElem?_eq_none (by omega)] at h; cases h)]
  exact h
theorem Keep.len {S S' : Sto} (k : Keep S S') : S.length ≤ S'.length := by
  by_cases c : S.length ≤ S'.length
  · exact c
  · have h : S[S'.length]? = some (S[S'.length]'(by omega)) := List.getElem?_eq_getElem (by omega)
    have := k _ _ h
    rw [List.getElem?_eq_none (Nat.le_refl _)] at this
    cases this
theorem lt_of_get {S : Sto} {i : Nat} {o : O} (h : S[i]? = some o) : i < S.length := by
  by_cases c : i < S.length
  · exact c
  · rw [List.getElem?_eq_none (by omega)] at h; cases h
theorem get_new {S : Sto} {o : O} : (S ++ [o])[S.length]? = some o := by
  rw [List.getElem?_append_right (Nat.le_refl _), Nat.sub_self]; rfl
theorem Keep.put {S S' : Sto} {i : Nat} (k : Keep S S') (h : S.length ≤ i) (o : O) : Keep S (S'.set i o) := fun j u e => by
  rw [List.getElem?_set_ne (by have := lt_of_get e; omega)]
  exact k j u e
section
variable {α β : Type} {ρ : Env} {S : Sto} {N B C : Env → Sto → Prop} {T : D → Sto → Prop}
theorem WV.imp {r : Option (R α)} {Q Q' : α → Sto → Prop} (h : WV r Q) (q : ∀ a S, Q a S → Q' a S) : WV r Q' := by
  obtain ⟨a, S, e, k⟩ := h
  exact ⟨a, S, e, q a S k⟩
theorem WS.imp {r : Option RS} {N' B' C' : Env → Sto → Prop} {T' : D → Sto → Prop} (h : WS r N T B C) (n : ∀ ρ S, N ρ S → N' ρ S) (t : ∀ d S, T d S → T' d S) (b : ∀ ρ S, B ρ S → B' ρ S) (c : ∀ ρ S, C ρ S → C' ρ S) : WS r N' T' B' C' := by
  rcases h with ⟨ρ, S, e, k⟩ | ⟨d, S, e, k⟩ | ⟨ρ, S, e, k⟩ | ⟨ρ, S, e, k⟩
  · exact .inl ⟨ρ, S, e, n _ _ k⟩
  · exact .inr (.inl ⟨d, S, e, t _ _ k⟩)
  · exact .inr (.inr (.inl ⟨ρ, S, e, b _ _ k⟩))
  · exact .inr (.inr (.inr ⟨ρ, S, e, c _ _ k⟩))
theorem wv_of {r : Option (R α)} {a : α} {S : Sto} {Q : α → Sto → Prop} (e : r = some (.val a S)) (q : Q a S) : WV r Q := ⟨a, S, e, q⟩
theorem wg_of {r : Option (α × Sto)} {a : α} {S : Sto} {Q : α → Sto → Prop} (e : r = some (a, S)) (q : Q a S) : WG r Q := ⟨a, S, e, q⟩
theorem wv_b {m : M α} {k : α → M β} {Q : β → Sto → Prop} (h : WV (m ρ S) fun a S1 => WV (k a ρ S1) Q) : WV (mB m k ρ S) Q := by
  obtain ⟨a, S1, e, h2⟩ := h
  unfold mB
  rw [e]
  exact h2
theorem ws_b {m : M α} {k : α → MS} (h : WV (m ρ S) fun a S1 => WS (k a ρ S1) N T B C) : WS (sB m k ρ S) N T B C := by
  obtain ⟨a, S1, e, h2⟩ := h
  unfold sB
  rw [e]
  exact h2
theorem wv_ret {a : α} {Q : α → Sto → Prop} (h : Q a S) : WV (mRet a ρ S) Q := ⟨a, S, rfl, h⟩
theorem wv_var {i : Nat} {d : D} {Q : D → Sto → Prop} (e : ρ[i]? = some (some d)) (h : Q d S) : WV (mVar i ρ S) Q := ⟨d, S, by unfold mVar; rw [e], h⟩
theorem wv_op {g : G2} {ma mb : M D} {Q : D → Sto → Prop} (h : WV (ma ρ S) fun a S1 => WV (mb ρ S1) fun b S2 => WG (g a b S2) Q) : WV (mOp g ma mb ρ S) Q := by
  refine wv_b (h.imp fun a S1 h1 => wv_b (h1.imp fun b S2 h2 => ?_))
  obtain ⟨c, S3, e, q⟩ := h2
  exact ⟨c, S3, by rw [e], q⟩
theorem wv_un {g : G1} {ma : M D} {Q : D → Sto → Prop} (h : WV (ma ρ S) fun a S1 => WG (g a S1) Q) : WV (mUn g ma ρ S) Q := by
  refine wv_b (h.imp fun a S1 h1 => ?_)
  obtain ⟨c, S3, e, q⟩ := h1
  exact ⟨c, S3, by rw [e], q⟩
theorem wv_bi {g : GN} {ms : M (List D)} {Q : D → Sto → Prop} (h : WV (ms ρ S) fun as S1 => WG (g as S1) Q) : WV (mBi g ms ρ S) Q := by
  refine wv_b (h.imp fun a S1 h1 => ?_)
  obtain ⟨c, S3, e, q⟩ := h1
  exact ⟨c, S3, by rw [e], q⟩
theorem wv_call {F : List D → Sto → Option (R D)} {ms : M (List D)} {Q : D → Sto → Prop} (h : WV (ms ρ S) fun as S1 => WV (F as S1) Q) : WV (mCall F ms ρ S) Q := wv_b h
theorem wv_call0 {F : List D → Sto → Option (R D)} {Q : D → Sto → Prop} (h : WV (F [] S) Q) : WV (mCall0 F ρ S) Q := by
  obtain ⟨c, S3, e, q⟩ := h
  exact ⟨c, S3, by unfold mCall0; rw [e], q⟩
theorem wv_nil {Q : List D → Sto → Prop} (h : Q [] S) : WV (mNil ρ S) Q := ⟨[], S, rfl, h⟩
theorem wv_cons {ma : M D} {ms : M (List D)} {Q : List D → Sto → Prop} (h : WV (ma ρ S) fun a S1 => WV (ms ρ S1) fun as S2 => Q (a :: as) S2) : WV (mCons ma ms ρ S) Q :=
  wv_b (h.imp fun a S1 h1 => wv_b (h1.imp fun as S2 h2 => wv_ret h2))
theorem wv_tup {ms : M (List D)} {Q : D → Sto → Prop} (h : WV (ms ρ S) fun as S1 => as.length ≤ 1000 ∧ Q (.tup as) S1) : WV (mTup ms ρ S) Q := by
  refine wv_b (h.imp fun as S1 h1 => ?_)
  rw [if_pos h1.1]
  exact wv_ret h1.2
theorem wv_lst {ms : M (List D)} {Q : D → Sto → Prop} (h : WV (ms ρ S) fun as S1 => as.length ≤ 1000 ∧ Q (.ref S1.length) (S1 ++ [.lst as])) : WV (mLst ms ρ S) Q := by
  refine wv_b (h.imp fun as S1 h1 => ?_)
  rw [if_pos h1.1]
  exact ⟨_, _, rfl, h1.2⟩
theorem wv_dct0 {Q : D → Sto → Prop} (h : Q (.ref S.length) (S ++ [.dct []])) : WV (mDct0 ρ S) Q := ⟨_, _, rfl, h⟩
theorem wv_T {m : M D} {Q : Bool → Sto → Prop} (h : WV (m ρ S) fun a S1 => ∃ c, a = .bl c ∧ Q c S1) : WV (mT m ρ S) Q := by
  refine wv_b (h.imp fun a S1 h1 => ?_)
  obtain ⟨c, e, q⟩ := h1
  subst e
  exact wv_ret q
theorem wv_tru {m : M D} {Q : Bool → Sto → Prop} (h : WV (m ρ S) fun a S1 => ∃ c, truD a S1 = some c ∧ Q c S1) : WV (mTru m ρ S) Q := by
  refine wv_b (h.imp fun a S1 h1 => ?_)
  obtain ⟨c, e, q⟩ := h1
  exact ⟨c, S1, by rw [e], q⟩
theorem wv_not {m : M Bool} {Q : Bool → Sto → Prop} (h : WV (m ρ S) fun c S1 => Q (!c) S1) : WV (mNotB m ρ S) Q := wv_b (h.imp fun _ _ h1 => wv_ret h1)
theorem wv_and {ma mb : M Bool} {Q : Bool → Sto → Prop} (h : WV (ma ρ S) fun c S1 => (c = true → WV (mb ρ S1) Q) ∧ (c = false → Q false S1)) : WV (mAnd ma mb ρ S) Q := by
  refine wv_b (h.imp fun c S1 h1 => ?_)
  cases c with
  | true => exact h1.1 rfl
  | false => exact wv_ret (h1.2 rfl)
theorem wv_or {ma mb : M Bool} {Q : Bool → Sto → Prop} (h : WV (ma ρ S) fun c S1 => (c = false → WV (mb ρ S1) Q) ∧ (c = true → Q true S1)) : WV (mOr ma mb ρ S) Q := by
  refine wv_b (h.imp fun c S1 h1 => ?_)
  cases c with
  | false => exact h1.1 rfl
  | true => exact wv_ret (h1.2 rfl)
theorem wv_if {mc : M Bool} {ma mb : M α} {Q : α → Sto → Prop} (h : WV (mc ρ S) fun c S1 => (c = true → WV (ma ρ S1) Q) ∧ (c = false → WV (mb ρ S1) Q)) : WV (mIf mc ma mb ρ S) Q := by
  refine wv_b (h.imp fun c S1 h1 => ?_)
  cases c with
  | true => exact h1.1 rfl
  | false => exact h1.2 rfl
theorem wv_andV {ma mb : M D} {Q : D → Sto → Prop} (h : WV (ma ρ S) fun a S1 => ∃ c, a = .bl c ∧ (c = true → WV (mb ρ S1) Q) ∧ (c = false → Q (.bl false) S1)) : WV (mAndV ma mb ρ S) Q := by
  refine wv_b (h.imp fun a S1 h1 => ?_)
  obtain ⟨c, rfl, h2, h3⟩ := h1
  cases c with
  | true => exact h2 rfl
  | false => exact wv_ret (h3 rfl)
theorem wv_orV {ma mb : M D} {Q : D → Sto → Prop} (h : WV (ma ρ S) fun a S1 => ∃ c, a = .bl c ∧ (c = false → WV (mb ρ S1) Q) ∧ (c = true → Q (.bl true) S1)) : WV (mOrV ma mb ρ S) Q := by
  refine wv_b (h.imp fun a S1 h1 => ?_)
  obtain ⟨c, rfl, h2, h3⟩ := h1
  cases c with
  | false => exact h2 rfl
  | true => exact wv_ret (h3 rfl)
theorem wv_yes {Q : Bool → Sto → Prop} (h : Q true S) : WV (mYes ρ S) Q := ⟨true, S, rfl, h⟩
theorem wv_seq {m : M D} {Q : Sq → Sto → Prop} (h : WV (m ρ S) fun a S1 => ∃ q, sqOf S1 a = some q ∧ Q q S1) : WV (mSeq m ρ S) Q := by
  refine wv_b (h.imp fun a S1 h1 => ?_)
  obtain ⟨q, e, k⟩ := h1
  exact ⟨q, S1, by rw [e], k⟩
theorem wv_rng1 {ms : M (List D)} {Q : Sq → Sto → Prop} (h : WV (ms ρ S) fun as S1 => ∃ n : Int, as = [.int n] ∧ rngOk n = true ∧ Q (sqIt (rngD 0 n.toNat)) S1) : WV (mRng1 ms ρ S) Q := by
  refine wv_b (h.imp fun a S1 h1 => ?_)
  obtain ⟨n, rfl, e, k⟩ := h1
  exact ⟨_, S1, by dsimp only; rw [if_pos e], k⟩
theorem wv_zip {ms : M (List D)} {Q : Sq → Sto → Prop} (h : WV (ms ρ S) fun as S1 => ∃ a b p q, as = [a, b] ∧ isT a = isT b ∧ sqOf S1 a = some p ∧ sqOf S1 b = some q ∧ Q (zipQ p q) S1) : WV (mZip ms ρ S) Q := by
  refine wv_b (h.imp fun as S1 h1 => ?_)
  obtain ⟨a, b, p, q, rfl, e1, e2, e3, k⟩ := h1
  exact ⟨_, S1, by dsimp only; rw [if_pos e1, e2, e3], k⟩
theorem wv_enm {ms : M (List D)} {Q : Sq → Sto → Prop} (h : WV (ms ρ S) fun as S1 => ∃ a p, as = [a] ∧ isT a = false ∧ sqOf S1 a = some p ∧ Q (enmQ p) S1) : WV (mEnm ms ρ S) Q := by
  refine wv_b (h.imp fun as S1 h1 => ?_)
  obtain ⟨a, p, rfl, e1, e2, k⟩ := h1
  exact ⟨_, S1, by dsimp only; rw [if_pos e1, e2], k⟩
theorem wv_app {mo me : M D} {Q : D → Sto → Prop} (h : WV (mo ρ S) fun o S1 => ∃ i xs0, o = .ref i ∧ S1[i]? = some (.lst xs0) ∧ WV (me ρ S1) fun d S2 => ∃ xs, S2[i]? = some (.lst xs) ∧ xs.length < 1000000 ∧ Q .non (S2.set i (.lst (xs ++ [d])))) : WV (mApp mo me ρ S) Q := by
  refine wv_b (h.imp fun o S1 h1 => ?_)
  obtain ⟨i, xs0, rfl, e, h2⟩ := h1
  dsimp only
  rw [e]
  dsimp only
  refine wv_b (h2.imp fun d S2 h3 => ?_)
  obtain ⟨xs, e2, e3, q⟩ := h3
  exact ⟨_, _, by rw [e2]; dsimp only; rw [if_pos e3], q⟩
theorem wv_dget {mo mk : M D} {Q : D → Sto → Prop} (h : WV (mo ρ S) fun o S1 => WV (mk ρ S1) fun k S2 => ∃ d, dctGet S2 o k = some (some d) ∧ Q d S2) : WV (mDGet mo mk ρ S) Q := by
  refine wv_b (h.imp fun o S1 h1 => wv_b (h1.imp fun k S2 h2 => ?_))
  obtain ⟨d, e, q⟩ := h2
  exact ⟨d, S2, by rw [e], q⟩
theorem wv_dget2 {mo mk mx : M D} {Q : D → Sto → Prop} (h : WV (mo ρ S) fun o S1 => (∃ kvs, dctOf S1 o = some kvs) ∧ WV (mk ρ S1) fun k S2 => WV (mx ρ S2) fun x S3 => ∃ r, dctGet S3 o k = some r ∧ Q (r.getD x) S3) : WV (mDGet2 mo mk mx ρ S) Q := by
  refine wv_b (h.imp fun o S1 h1 => ?_)
  obtain ⟨⟨kvs, e⟩, h2⟩ := h1
  show WV ((match dctOf S1 o with | some _ => _ | none => none)) Q
  rw [e]
  dsimp only
  refine wv_b (h2.imp fun k S2 h3 => wv_b (h3.imp fun x S3 h4 => ?_))
  obtain ⟨r, e2, q⟩ := h4
  cases r with
  | none => exact ⟨x, S3, by rw [e2], q⟩
  | some d => exact ⟨d, S3, by rw [e2], q⟩
theorem wv_din {neg : Bool} {mk mo : M D} {Q : Bool → Sto → Prop} (h : WV (mk ρ S) fun k S1 => WV (mo ρ S1) fun o S2 => ∃ r, dctGet S2 o k = some r ∧ Q (r.isSome != neg) S2) : WV (mDIn neg mk mo ρ S) Q := by
  refine wv_b (h.imp fun k S1 h1 => wv_b (h1.imp fun o S2 h2 => ?_))
  obtain ⟨r, e, q⟩ := h2
  exact ⟨_, S2, by rw [e], q⟩
theorem wv_dct1 {mk mv : M D} {Q : D → Sto → Prop} (h : WV (mk ρ (S ++ [.dct []])) fun k S1 => WV (mv ρ S1) fun v S2 => ∃ ks, keyD k = some ks ∧ S2[S.length]? = some (.dct []) ∧ Q (.ref S.length) (S2.set S.length (.dct [(ks, v)]))) : WV (mDct1 mk mv ρ S) Q := by
  unfold mDct1
  refine wv_b (h.imp fun k S1 h1 => wv_b (h1.imp fun v S2 h2 => ?_))
  obtain ⟨ks, e1, e2, q⟩ := h2
  exact ⟨_, _, by rw [e1, e2], q⟩
theorem wv_sx2 {m ml mh : M D} {Q : D → Sto → Prop} (h : WV (m ρ S) fun a S1 => WV (ml ρ S1) fun l S2 => ∃ i : Int, l = .int i ∧ WV (mh ρ S2) fun h S3 => ∃ j : Int, h = .int j ∧ WG (slD S3 a (some i) (some j)) Q) : WV (mSx2 m ml mh ρ S) Q := by
  refine wv_b (h.imp fun a S1 h1 => wv_b (h1.imp fun l S2 h2 => ?_))
  obtain ⟨i, rfl, h3⟩ := h2
  refine wv_b (h3.imp fun h S3 h4 => ?_)
  obtain ⟨j, rfl, d, S', e, q⟩ := h4
  exact ⟨d, S', by show (match slD S3 a (some i) (some j) with | some (d, S') => some (R.val d S') | none => none) = _; rw [e], q⟩
theorem wv_sxH {m mh : M D} {Q : D → Sto → Prop} (h : WV (m ρ S) fun a S1 => WV (mh ρ S1) fun h S3 => ∃ j : Int, h = .int j ∧ WG (slD S3 a none (some j)) Q) : WV (mSxH m mh ρ S) Q := by
  refine wv_b (h.imp fun a S1 h1 => wv_b (h1.imp fun h S3 h4 => ?_))
  obtain ⟨j, rfl, d, S', e, q⟩ := h4
  exact ⟨d, S', by show (match slD S3 a none (some j) with | some (d, S') => some (R.val d S') | none => none) = _; rw [e], q⟩
theorem wv_sxL {m ml : M D} {Q : D → Sto → Prop} (h : WV (m ρ S) fun a S1 => WV (ml ρ S1) fun h S3 => ∃ j : Int, h = .int j ∧ WG (slD S3 a (some j) none) Q) : WV (mSxL m ml ρ S) Q := by
  refine wv_b (h.imp fun a S1 h1 => wv_b (h1.imp fun h S3 h4 => ?_))
  obtain ⟨j, rfl, d, S', e, q⟩ := h4
  exact ⟨d, S', by show (match slD S3 a (some j) none with | some (d, S') => some (R.val d S') | none => none) = _; rw [e], q⟩
/-! statements -/
theorem ws_seq {a b : MS} (h : WS (a ρ S) (fun ρ1 S1 => WS (b ρ1 S1) N T B C) T B C) : WS (sSeq a b ρ S) N T B C := by
  unfold sSeq
  rcases h with ⟨ρ1, S1, e, k⟩ | ⟨d, S1, e, k⟩ | ⟨ρ1, S1, e, k⟩ | ⟨ρ1, S1, e, k⟩ <;> rw [e]
  · exact k
  · exact .inr (.inl ⟨d, S1, rfl, k⟩)
  · exact .inr (.inr (.inl ⟨ρ1, S1, rfl, k⟩))
  · exact .inr (.inr (.inr ⟨ρ1, S1, rfl, k⟩))
theorem ws_nil (h : N ρ S) : WS (sNil ρ S) N T B C := .inl ⟨ρ, S, rfl, h⟩
theorem ws_brk (h : B ρ S) : WS (sBrk ρ S) N T B C := .inr (.inr (.inl ⟨ρ, S, rfl, h⟩))
theorem ws_cnt (h : C ρ S) : WS (sCnt ρ S) N T B C := .inr (.inr (.inr ⟨ρ, S, rfl, h⟩))
theorem ws_ex {m : M D} (h : WV (m ρ S) fun _ S1 => N ρ S1) : WS (sEx m ρ S) N T B C := ws_b (h.imp fun _ _ h1 => .inl ⟨_, _, rfl, h1⟩)
theorem ws_ret {m : M D} (h : WV (m ρ S) T) : WS (sRet m ρ S) N T B C := ws_b (h.imp fun _ _ h1 => .inr (.inl ⟨_, _, rfl, h1⟩))
theorem ws_retN (h : T .non S) : WS (sRetN ρ S) N T B C := .inr (.inl ⟨_, _, rfl, h⟩)
theorem ws_set {i : Nat} {m : M D} (h : WV (m ρ S) fun d S1 => N (ρ.set i (some d)) S1) : WS (sSet i m ρ S) N T B C := ws_b (h.imp fun _ _ h1 => .inl ⟨_, _, rfl, h1⟩)
theorem ws_if {c : M Bool} {a b : MS} (h : WV (c ρ S) fun k S1 => (k = true → WS (a ρ S1) N T B C) ∧ (k = false → WS (b ρ S1) N T B C)) : WS (sIf c a b ρ S) N T B C := ws_b (h.imp fun k S1 h1 => by
  cases k with
  | true => exact h1.1 rfl
  | false => exact h1.2 rfl)
theorem ws_asg {t : Tgt} {m : M D} (h : WV (m ρ S) fun d S1 => ∃ ρ1, t d ρ S1 = some ρ1 ∧ N ρ1 S1) : WS (sAsg t m ρ S) N T B C := ws_b (h.imp fun d S1 h1 => by
  obtain ⟨ρ1, e, k⟩ := h1
  exact .inl ⟨ρ1, S1, by rw [e]; rfl, k⟩)
theorem ws_par {i j : Nat} {ms : M (List D)} (h : WV (ms ρ S) fun ds S1 => ∃ a b, ds = [a, b] ∧ N ((ρ.set i (some a)).set j (some b)) S1) : WS (sPar i j ms ρ S) N T B C := ws_b (h.imp fun ds S1 h1 => by
  obtain ⟨a, b, rfl, k⟩ := h1
  exact .inl ⟨_, _, rfl, k⟩)
theorem ws_aug {i : Nat} {g : G2} {m : M D} {d0 : D} (e : ρ[i]? = some (some d0)) (h : WV (m ρ S) fun d S1 => WG (g d0 d S1) fun c S2 => N (ρ.set i (some c)) S2) : WS (sAug i g m ρ S) N T B C := by
  unfold sAug
  rw [e]
  refine ws_b (h.imp fun d S1 h1 => ?_)
  obtain ⟨c, S2, e2, k⟩ := h1
  exact .inl ⟨_, _, by rw [e2], k⟩
theorem ws_dput {mo mk mv : M D} (h : WV (mv ρ S) fun v S1 => WV (mo ρ S1) fun o S2 => WV (mk ρ S2) fun k S3 => ∃ i kvs ks, o = .ref i ∧ S3[i]? = some (.dct kvs) ∧ keyD k = some ks ∧ kvs.length < 1000000 ∧ N ρ (S3.set i (.dct (putD kvs ks v)))) : WS (sDPut mo mk mv ρ S) N T B C := by
  refine ws_b (h.imp fun v S1 h1 => ws_b (h1.imp fun o S2 h2 => ws_b (h2.imp fun k S3 h3 => ?_)))
  obtain ⟨i, kvs, ks, rfl, e1, e2, e3, q⟩ := h3
  refine .inl ⟨_, _, ?_, q⟩
  have : dctOf S3 (.ref i) = some kvs := by unfold dctOf; dsimp only; rw [e1]
  rw [this, e2]
  dsimp only
  rw [if_pos e3]
  rfl
theorem ws_lput {mo mi mv : M D} (h : WV (mv ρ S) fun v S1 => WV (mo ρ S1) fun o S2 => WV (mi ρ S2) fun k S3 => ∃ (i : Nat) (xs : List D) (n : Int) (j : Nat), o = .ref i ∧ S3[i]? = some (.lst xs) ∧ k = .int n ∧ ixN xs.length n = some j ∧ N ρ (S3.set i (.lst (xs.set j v)))) : WS (sLPut mo mi mv ρ S) N T B C := by
  refine ws_b (h.imp fun v S1 h1 => ws_b (h1.imp fun o S2 h2 => ws_b (h2.imp fun k S3 h3 => ?_)))
  obtain ⟨i, xs, n, j, rfl, e1, rfl, e3, q⟩ := h3
  refine .inl ⟨_, _, ?_, q⟩
  have : lstR S3 (.ref i) = some xs := by unfold lstR; dsimp only; rw [e1]
  rw [this]
  show (match ixN xs.length n with | some j => _ | none => none) = _
  rw [e3]
  rfl
/-! a def -/
theorem wf_fn {n : Nat} {m : MS} {ds : List D} {Q : D → Sto → Prop} (h : WS (m (ds.map some ++ List.replicate (n - ds.length) none) S) (fun _ S1 => Q .non S1) Q (fun _ _ => False) (fun _ _ => False)) : WV (fnOf n m ds S) Q := by
  unfold fnOf
  rcases h with ⟨ρ1, S1, e, k⟩ | ⟨d, S1, e, k⟩ | ⟨ρ1, S1, e, k⟩ | ⟨ρ1, S1, e, k⟩
  · exact ⟨_, _, by rw [e], k⟩
  · exact ⟨_, _, by rw [e], k⟩
  · exact k.elim
  · exact k.elim
/-! loops -/
def SqIs (sq : Sq) (xs : List D) (S : Sto) : Prop := ∀ i, sq i S = some xs[i]?
theorem sqIs_it {xs : List D} {S : Sto} : SqIs (sqIt xs) xs S := fun _ => rfl
theorem sqIs_ref {id : Nat} {xs : List D} {S : Sto} (h : S[id]? = some (.lst xs)) : SqIs (sqRef id) xs S := fun i => by unfold sqRef; rw [h]
theorem sqIs_zip {p q : Sq} {xs ys : List D} {S : Sto} (h1 : SqIs p xs S) (h2 : SqIs q ys S) : SqIs (zipQ p q) (List.zipWith (fun x y => D.tup [x, y]) xs ys) S := fun i => by
  unfold zipQ
  rw [h1 i, h2 i]
  cases hx : xs[i]? with
  | none =>
    have : (List.zipWith (fun x y => D.tup [x, y]) xs ys)[i]? = none := by
      rw [List.getElem?_eq_none_iff] at hx ⊢
      rw [List.length_zipWith]; omega
    rw [this]
  | some x =>
    cases hy : ys[i]? with
    | none =>
      have : (List.zipWith (fun x y => D.tup [x, y]) xs ys)[i]? = none := by
        rw [List.getElem?_eq_none_iff] at hy ⊢
        rw [List.length_zipWith]; omega
      rw [this]
    | some y =>
      have : (List.zipWith (fun x y => D.tup [x, y]) xs ys)[i]? = some (.tup [x, y]) := by
        rw [List.getElem?_zipWith, hx, hy]
      rw [this]
theorem loop_inv {t : Tgt} {b : MS} {sq : Sq} {xs : List D} (I : Nat → Env → Sto → Prop) (hsq : ∀ k ρ S, I k ρ S → SqIs sq xs S)
    (hb : ∀ k x ρ S, xs[k]? = some x → I k ρ S → ∃ ρ1, t x ρ S = some ρ1 ∧ WS (b ρ1 S) (I (k + 1)) T N (I (k + 1)))
    (he : ∀ ρ S, I xs.length ρ S → N ρ S) : ∀ (n k : Nat) (ρ : Env) (S : Sto), xs.length - k < n → k ≤ xs.length → I k ρ S → WS (loopQ t b sq n k ρ S) N T B C
  | 0, k, ρ, S, h, _, _ => absurd h (by omega)
  | n + 1, k, ρ, S, h, hk, hi => by
    unfold loopQ
    rw [hsq k ρ S hi k]
    cases hx : xs[k]? with
    | none =>
      have : k = xs.length := by
        have := List.getElem?_eq_none_iff.mp hx
        omega
      subst this
      exact .inl ⟨ρ, S, rfl, he _ _ hi⟩
    | some x =>
      have hlt : k < xs.length := by
        by_cases c : k < xs.length
        · exact c
        · rw [List.getElem?_eq_none (by omega)] at hx; cases hx
      obtain ⟨ρ1, e1, h1⟩ := hb k x ρ S hx hi
      dsimp only
      rw [e1]
      dsimp only
      rcases h1 with ⟨ρ2, S2, e2, q⟩ | ⟨d, S2, e2, q⟩ | ⟨ρ2, S2, e2, q⟩ | ⟨ρ2, S2, e2, q⟩
      · rw [e2]
        exact loop_inv I hsq hb he n (k + 1) ρ2 S2 (by omega) hlt q
      · exact .inr (.inl ⟨d, S2, by rw [e2], q⟩)
      · exact .inl ⟨ρ2, S2, by rw [e2], q⟩
      · rw [e2]
        exact loop_inv I hsq hb he n (k + 1) ρ2 S2 (by omega) hlt q
theorem ws_for {t : Tgt} {it : M Sq} {b : MS} (xs : List D) (I : Nat → Env → Sto → Prop) (hl : xs.length < 1000000)
    (h : WV (it ρ S) fun sq S1 => I 0 ρ S1 ∧ ∀ k ρ S, I k ρ S → SqIs sq xs S)
    (hb : ∀ k x ρ S, xs[k]? = some x → I k ρ S → ∃ ρ1, t x ρ S = some ρ1 ∧ WS (b ρ1 S) (I (k + 1)) T N (I (k + 1)))
    (he : ∀ ρ S, I xs.length ρ S → N ρ S) : WS (sFor t it b ρ S) N T B C :=
  ws_b (h.imp fun sq S1 h1 => loop_inv I h1.2 hb he fuel 0 ρ S1 (lt_fuel (k := 20) (Nat.lt_of_le_of_lt (Nat.sub_le _ _) (Nat.lt_trans hl (by decide))) (by omega)) (Nat.zero_le _) h1.1)
theorem loopC_inv {t : Tgt} {c : M Bool} {el : M D} {sq : Sq} {xs : List D} {ρ0 : Env} {n0 : Nat} {S1 : Sto} {f : D → Option D} (hn : n0 = S1.length) (hl : xs.length < 1000000) (hsq : ∀ S, Keep S1 S → SqIs sq xs S)
    (hb : ∀ x ∈ xs, ∀ S, Keep S1 S → ∃ ρ1, t x ρ0 S = some ρ1 ∧ WV (c ρ1 S) fun k S2 => Keep S S2 ∧ (k = true → WV (el ρ1 S2) fun d S3 => Keep S2 S3 ∧ f x = some d) ∧ (k = false → f x = none)) :
    ∀ (n k : Nat) (S : Sto) (acc : List D), xs.length - k < n → k ≤ xs.length → acc.length ≤ k → Keep S1 S → S[n0]? = some (.lst acc) → ∃ S', loopC t c el sq ρ0 n0 n k S = some S' ∧ Keep S1 S' ∧ S'[n0]? = some (.lst (acc ++ (xs.drop k).filterMap f))
  | 0, k, S, acc, h, _, _, _, _ => absurd h (by omega)
  | n + 1, k, S, acc, h, hk, ha, kp, hs => by
    rw [loopC, hsq S kp k]
    by_cases hlt : k < xs.length
    · have hx : xs[k]? = some xs[k] := List.getElem?_eq_getElem hlt
      rw [hx]
      obtain ⟨ρ1, e1, b, S2, e2, k2, y1, y2⟩ := hb xs[k] (List.getElem_mem hlt) S kp
      dsimp only
      rw [e1]
      dsimp only
      rw [e2, List.drop_eq_getElem_cons hlt, List.filterMap_cons]
      cases b with
      | false =>
        dsimp only
        rw [y2 rfl]
        exact loopC_inv hn hl hsq hb n (k + 1) S2 acc (by omega) hlt (by omega) (kp.trans k2) (k2 _ _ hs)
      | true =>
        obtain ⟨d, S3, e3, k3, e4⟩ := y1 rfl
        have hs3 := k3 _ _ (k2 _ _ hs)
        dsimp only
        rw [e3]
        dsimp only
        rw [hs3]
        dsimp only
        rw [if_pos (by omega), e4]
        obtain ⟨S', a1, a2, a3⟩ := loopC_inv hn hl hsq hb n (k + 1) (S3.set n0 (.lst (acc ++ [d]))) (acc ++ [d]) (by omega) hlt (by rw [List.length_append, List.length_singleton]; omega) ((kp.trans (k2.trans k3)).put (by omega) _) (List.getElem?_set_self (lt_of_get hs3))
        refine ⟨S', a1, a2, ?_⟩
        rw [a3, List.append_assoc, List.singleton_append]
    · have hx : xs[k]? = none := List.getElem?_eq_none (by omega)
      rw [hx, List.drop_eq_nil_of_le (by omega), List.filterMap_nil, List.append_nil]
      exact ⟨S, rfl, kp, hs⟩
theorem wv_lc {vs : List Nat} {t : Tgt} {it : M Sq} {c : M Bool} {el : M D} {Q : D → Sto → Prop} (xs : List D) (f : D → Option D) (hl : xs.length < 1000000)
    (h : WV (it ρ S) fun sq S1 => (∀ S, Keep S1 S → SqIs sq xs S) ∧
      (∀ x ∈ xs, ∀ S, Keep S1 S → ∃ ρ1, t x (wipeE ρ vs) S = some ρ1 ∧ WV (c ρ1 S) fun k S2 => Keep S S2 ∧ (k = true → WV (el ρ1 S2) fun d S3 => Keep S2 S3 ∧ f x = some d) ∧ (k = false → f x = none)) ∧
      ∀ i S2, Keep S1 S2 → S1.length ≤ i → S2[i]? = some (.lst (xs.filterMap f)) → Q (.ref i) S2) : WV (mLc vs t it c el ρ S) Q := by
  refine wv_b (h.imp fun sq S1 h1 => ?_)
  obtain ⟨a1, a2, a3⟩ := h1
  obtain ⟨S', b1, b2, b3⟩ := loopC_inv (S1 := S1) (f := f) (ρ0 := wipeE ρ vs) rfl hl a1 a2 fuel 0 (S1 ++ [.lst []]) [] (lt_fuel (k := 20) (Nat.lt_of_le_of_lt (Nat.sub_le _ _) (Nat.lt_trans hl (by decide))) (by omega)) (Nat.zero_le _) (Nat.zero_le _) (Keep.app _ _) get_new
  refine ⟨.ref S1.length, S', by rw [b1], a3 _ _ b2 (Nat.le_refl _) ?_⟩
  rw [b3, List.drop_zero, List.nil_append]
theorem loopW_inv {c : M Bool} {b : MS} (I : Nat → Env → Sto → Prop)
    (hb : ∀ m ρ S, I m ρ S → WV (c ρ S) fun k S1 => (k = true → WS (b ρ S1) (fun ρ S => ∃ m', m' < m ∧ I m' ρ S) T N (fun ρ S => ∃ m', m' < m ∧ I m' ρ S)) ∧ (k = false → N ρ S1)) :
    ∀ (n m : Nat) (ρ : Env) (S : Sto), m < n → I m ρ S → WS (loopW c b n ρ S) N T B C
  | 0, m, ρ, S, h, _ => absurd h (by omega)
  | n + 1, m, ρ, S, h, hi => by
    unfold loopW
    obtain ⟨k, S1, e, h1, h2⟩ := hb m ρ S hi
    rw [e]
    cases k with
    | false => exact .inl ⟨ρ, S1, rfl, h2 rfl⟩
    | true =>
      dsimp only
      rcases h1 rfl with ⟨ρ2, S2, e2, m', hm, q⟩ | ⟨d, S2, e2, q⟩ | ⟨ρ2, S2, e2, q⟩ | ⟨ρ2, S2, e2, m', hm, q⟩
      · rw [e2]
        exact loopW_inv I hb n m' ρ2 S2 (by omega) q
      · exact .inr (.inl ⟨d, S2, by rw [e2], q⟩)
      · exact .inl ⟨ρ2, S2, by rw [e2], q⟩
      · rw [e2]
        exact loopW_inv I hb n m' ρ2 S2 (by omega) q
theorem ws_while {c : M Bool} {b : MS} (I : Nat → Env → Sto → Prop) (m : Nat) (hm : m < 2 ^ 2000000) (h : I m ρ S)
    (hb : ∀ m ρ S, I m ρ S → WV (c ρ S) fun k S1 => (k = true → WS (b ρ S1) (fun ρ S => ∃ m', m' < m ∧ I m' ρ S) T N (fun ρ S => ∃ m', m' < m ∧ I m' ρ S)) ∧ (k = false → N ρ S1)) : WS (sWhile c b ρ S) N T B C :=
  loopW_inv I hb fuel m ρ S (lt_fuel hm (by omega)) h
end

theorem v0  {d : D} {r : List (Option D)} {S : Sto} {Q : D → Sto → Prop} (h : Q d S) : WV (mVar 0 (some d :: r) S) Q := wv_var rfl h
theorem s0  {x : Option D} {r : List (Option D)} {S : Sto} {m : M D} {N B C : Env → Sto → Prop} {T : D → Sto → Prop} (h : WV (m (x :: r) S) fun d S1 => N (some d :: r) S1) : WS (sSet 0 m (x :: r) S) N T B C := ws_set h
theorem v1 {x0 : Option D} {d : D} {r : List (Option D)} {S : Sto} {Q : D → Sto → Prop} (h : Q d S) : WV (mVar 1 (x0 :: some d :: r) S) Q := wv_var rfl h
theorem s1 {x0 : Option D} {x : Option D} {r : List (Option D)} {S : Sto} {m : M D} {N B C : Env → Sto → Prop} {T : D → Sto → Prop} (h : WV (m (x0 :: x :: r) S) fun d S1 => N (x0 :: some d :: r) S1) : WS (sSet 1 m (x0 :: x :: r) S) N T B C := ws_set h
theorem v2 {x0 : Option D} {x1 : Option D} {d : D} {r : List (Option D)} {S : Sto} {Q : D → Sto → Prop} (h : Q d S) : WV (mVar 2 (x0 :: x1 :: some d :: r) S) Q := wv_var rfl h
theorem s2 {x0 : Option D} {x1 : Option D} {x : Option D} {r : List (Option D)} {S : Sto} {m : M D} {N B C : Env → Sto → Prop} {T : D → Sto → Prop} (h : WV (m (x0 :: x1 :: x :: r) S) fun d S1 => N (x0 :: x1 :: some d :: r) S1) : WS (sSet 2 m (x0 :: x1 :: x :: r) S) N T B C := ws_set h
theorem v3 {x0 : Option D} {x1 : Option D} {x2 : Option D} {d : D} {r : List (Option D)} {S : Sto} {Q : D → Sto → Prop} (h : Q d S) : WV (mVar 3 (x0 :: x1 :: x2 :: some d :: r) S) Q := wv_var rfl h
theorem s3 {x0 : Option D} {x1 : Option D} {x2 : Option D} {x : Option D} {r : List (Option D)} {S : Sto} {m : M D} {N B C : Env → Sto → Prop} {T : D → Sto → Prop} (h : WV (m (x0 :: x1 :: x2 :: x :: r) S) fun d S1 => N (x0 :: x1 :: x2 :: some d :: r) S1) : WS (sSet 3 m (x0 :: x1 :: x2 :: x :: r) S) N T B C := ws_set h
theorem v4 {x0 : Option D} {x1 : Option D} {x2 : Option D} {x3 : Option D} {d : D} {r : List (Option D)} {S : Sto} {Q : D → Sto → Prop} (h : Q d S) : WV (mVar 4 (x0 :: x1 :: x2 :: x3 :: some d :: r) S) Q := wv_var rfl h
theorem s4 {x0 : Option D} {x1 : Option D} {x2 : Option D} {x3 : Option D} {x : Option D} {r : List (Option D)} {S : Sto} {m : M D} {N B C : Env → Sto → Prop} {T : D → Sto → Prop} (h : WV (m (x0 :: x1 :: x2 :: x3 :: x :: r) S) fun d S1 => N (x0 :: x1 :: x2 :: x3 :: some d :: r) S1) : WS (sSet 4 m (x0 :: x1 :: x2 :: x3 :: x :: r) S) N T B C := ws_set h
theorem v5 {x0 : Option D} {x1 : Option D} {x2 : Option D} {x3 : Option D} {x4 : Option D} {d : D} {r : List (Option D)} {S : Sto} {Q : D → Sto → Prop} (h : Q d S) : WV (mVar 5 (x0 :: x1 :: x2 :: x3 :: x4 :: some d :: r) S) Q := wv_var rfl h
theorem s5 {x0 : Option D} {x1 : Option D} {x2 : Option D} {x3 : Option D} {x4 : Option D} {x : Option D} {r : List (Option D)} {S : Sto} {m : M D} {N B C : Env → Sto → Prop} {T : D → Sto → Prop} (h : WV (m (x0 :: x1 :: x2 :: x3 :: x4 :: x :: r) S) fun d S1 => N (x0 :: x1 :: x2 :: x3 :: x4 :: some d :: r) S1) : WS (sSet 5 m (x0 :: x1 :: x2 :: x3 :: x4 :: x :: r) S) N T B C := ws_set h
theorem v6 {x0 : Option D} {x1 : Option D} {x2 : Option D} {x3 : Option D} {x4 : Option D} {x5 : Option D} {d : D} {r : List (Option D)} {S : Sto} {Q : D → Sto → Prop} (h : Q d S) : WV (mVar 6 (x0 :: x1 :: x2 :: x3 :: x4 :: x5 :: some d :: r) S) Q := wv_var rfl h
theorem s6 {x0 : Option D} {x1 : Option D} {x2 : Option D} {x3 : Option D} {x4 : Option D} {x5 : Option D} {x : Option D} {r : List (Option D)} {S : Sto} {m : M D} {N B C : Env → Sto → Prop} {T : D → Sto → Prop} (h : WV (m (x0 :: x1 :: x2 :: x3 :: x4 :: x5 :: x :: r) S) fun d S1 => N (x0 :: x1 :: x2 :: x3 :: x4 :: x5 :: some d :: r) S1) : WS (sSet 6 m (x0 :: x1 :: x2 :: x3 :: x4 :: x5 :: x :: r) S) N T B C := ws_set h
theorem v7 {x0 : Option D} {x1 : Option D} {x2 : Option D} {x3 : Option D} {x4 : Option D} {x5 : Option D} {x6 : Option D} {d : D} {r : List (Option D)} {S : Sto} {Q : D → Sto → Prop} (h : Q d S) : WV (mVar 7 (x0 :: x1 :: x2 :: x3 :: x4 :: x5 :: x6 :: some d :: r) S) Q := wv_var rfl h
theorem s7 {x0 : Option D} {x1 : Option D} {x2 : Option D} {x3 : Option D} {x4 : Option D} {x5 : Option D} {x6 : Option D} {x : Option D} {r : List (Option D)} {S : Sto} {m : M D} {N B C : Env → Sto → Prop} {T : D → Sto → Prop} (h : WV (m (x0 :: x1 :: x2 :: x3 :: x4 :: x5 :: x6 :: x :: r) S) fun d S1 => N (x0 :: x1 :: x2 :: x3 :: x4 :: x5 :: x6 :: some d :: r) S1) : WS (sSet 7 m (x0 :: x1 :: x2 :: x3 :: x4 :: x5 :: x6 :: x :: r) S) N T B C := ws_set h
theorem v8 {x0 : Option D} {x1 : Option D} {x2 : Option D} {x3 : Option D} {x4 : Option D} {x5 : Option D} {x6 : Option D} {x7 : Option D} {d : D} {r : List (Option D)} {S : Sto} {Q : D → Sto → Prop} (h : Q d S) : WV (mVar 8 (x0 :: x1 :: x2 :: x3 :: x4 :: x5 :: x6 :: x7 :: some d :: r) S) Q := wv_var rfl h
theorem s8 {x0 : Option D} {x1 : Option D} {x2 : Option D} {x3 : Option D} {x4 : Option D} {x5 : Option D} {x6 : Option D} {x7 : Option D} {x : Option D} {r : List (Option D)} {S : Sto} {m : M D} {N B C : Env → Sto → Prop} {T : D → Sto → Prop} (h : WV (m (x0 :: x1 :: x2 :: x3 :: x4 :: x5 :: x6 :: x7 :: x :: r) S) fun d S1 => N (x0 :: x1 :: x2 :: x3 :: x4 :: x5 :: x6 :: x7 :: some d :: r) S1) : WS (sSet 8 m (x0 :: x1 :: x2 :: x3 :: x4 :: x5 :: x6 :: x7 :: x :: r) S) N T B C := ws_set h
theorem v9 {x0 : Option D} {x1 : Option D} {x2 : Option D} {x3 : Option D} {x4 : Option D} {x5 : Option D} {x6 : Option D} {x7 : Option D} {x8 : Option D} {d : D} {r : List (Option D)} {S : Sto} {Q : D → Sto → Prop} (h : Q d S) : WV (mVar 9 (x0 :: x1 :: x2 :: x3 :: x4 :: x5 :: x6 :: x7 :: x8 :: some d :: r) S) Q := wv_var rfl h
theorem s9 {x0 : Option D} {x1 : Option D} {x2 : Option D} {x3 : Option D} {x4 : Option D} {x5 : Option D} {x6 : Option D} {x7 : Option D} {x8 : Option D} {x : Option D} {r : List (Option D)} {S : Sto} {m : M D} {N B C : Env → Sto → Prop} {T : D → Sto → Prop} (h : WV (m (x0 :: x1 :: x2 :: x3 :: x4 :: x5 :: x6 :: x7 :: x8 :: x :: r) S) fun d S1 => N (x0 :: x1 :: x2 :: x3 :: x4 :: x5 :: x6 :: x7 :: x8 :: some d :: r) S1) : WS (sSet 9 m (x0 :: x1 :: x2 :: x3 :: x4 :: x5 :: x6 :: x7 :: x8 :: x :: r) S) N T B C := ws_set h
theorem v10 {x0 : Option D} {x1 : Option D} {x2 : Option D} {x3 : Option D} {x4 : Option D} {x5 : Option D} {x6 : Option D} {x7 : Option D} {x8 : Option D} {x9 : Option D} {d : D} {r : List (Option D)} {S : Sto} {Q : D → Sto → Prop} (h : Q d S) : WV (mVar 10 (x0 :: x1 :: x2 :: x3 :: x4 :: x5 :: x6 :: x7 :: x8 :: x9 :: some d :: r) S) Q := wv_var rfl h
theorem s10 {x0 : Option D} {x1 : Option D} {x2 : Option D} {x3 : Option D} {x4 : Option D} {x5 : Option D} {x6 : Option D} {x7 : Option D} {x8 : Option D} {x9 : Option D} {x : Option D} {r : List (Option D)} {S : Sto} {m : M D} {N B C : Env → Sto → Prop} {T : D → Sto → Prop} (h : WV (m (x0 :: x1 :: x2 :: x3 :: x4 :: x5 :: x6 :: x7 :: x8 :: x9 :: x :: r) S) fun d S1 => N (x0 :: x1 :: x2 :: x3 :: x4 :: x5 :: x6 :: x7 :: x8 :: x9 :: some d :: r) S1) : WS (sSet 10 m (x0 :: x1 :: x2 :: x3 :: x4 :: x5 :: x6 :: x7 :: x8 :: x9 :: x :: r) S) N T B C := ws_set h
theorem v11 {x0 : Option D} {x1 : Option D} {x2 : Option D} {x3 : Option D} {x4 : Option D} {x5 : Option D} {x6 : Option D} {x7 : Option D} {x8 : Option D} {x9 : Option D} {x10 : Option D} {d : D} {r : List (Option D)} {S : Sto} {Q : D → Sto → Prop} (h : Q d S) : WV (mVar 11 (x0 :: x1 :: x2 :: x3 :: x4 :: x5 :: x6 :: x7 :: x8 :: x9 :: x10 :: some d :: r) S) Q := wv_var rfl h
theorem s11 {x0 : Option D} {x1 : Option D} {x2 : Option D} {x3 : Option D} {x4 : Option D} {x5 : Option D} {x6 : Option D} {x7 : Option D} {x8 : Option D} {x9 : Option D} {x10 : Option D} {x : Option D} {r : List (Option D)} {S : Sto} {m : M D} {N B C : Env → Sto → Prop} {T : D → Sto → Prop} (h : WV (m (x0 :: x1 :: x2 :: x3 :: x4 :: x5 :: x6 :: x7 :: x8 :: x9 :: x10 :: x :: r) S) fun d S1 => N (x0 :: x1 :: x2 :: x3 :: x4 :: x5 :: x6 :: x7 :: x8 :: x9 :: x10 :: some d :: r) S1) : WS (sSet 11 m (x0 :: x1 :: x2 :: x3 :: x4 :: x5 :: x6 :: x7 :: x8 :: x9 :: x10 :: x :: r) S) N T B C := ws_set h
theorem v12 {x0 : Option D} {x1 : Option D} {x2 : Option D} {x3 : Option D} {x4 : Option D} {x5 : Option D} {x6 : Option D} {x7 : Option D} {x8 : Option D} {x9 : Option D} {x10 : Option D} {x11 : Option D} {d : D} {r : List (Option D)} {S : Sto} {Q : D → Sto → Prop} (h : Q d S) : WV (mVar 12 (x0 :: x1 :: x2 :: x3 :: x4 :: x5 :: x6 :: x7 :: x8 :: x9 :: x10 :: x11 :: some d :: r) S) Q := wv_var rfl h
theorem s12 {x0 : Option D} {x1 : Option D} {x2 : Option D} {x3 : Option D} {x4 : Option D} {x5 : Option D} {x6 : Option D} {x7 : Option D} {x8 : Option D} {x9 : Option D} {x10 : Option D} {x11 : Option D} {x : Option D} {r : List (Option D)} {S : Sto} {m : M D} {N B C : Env → Sto → Prop} {T : D → Sto → Prop} (h : WV (m (x0 :: x1 :: x2 :: x3 :: x4 :: x5 :: x6 :: x7 :: x8 :: x9 :: x10 :: x11 :: x :: r) S) fun d S1 => N (x0 :: x1 :: x2 :: x3 :: x4 :: x5 :: x6 :: x7 :: x8 :: x9 :: x10 :: x11 :: some d :: r) S1) : WS (sSet 12 m (x0 :: x1 :: x2 :: x3 :: x4 :: x5 :: x6 :: x7 :: x8 :: x9 :: x10 :: x11 :: x :: r) S) N T B C := ws_set h
theorem v13 {x0 : Option D} {x1 : Option D} {x2 : Option D} {x3 : Option D} {x4 : Option D} {x5 : Option D} {x6 : Option D} {x7 : Option D} {x8 : Option D} {x9 : Option D} {x10 : Option D} {x11 : Option D} {x12 : Option D} {d : D} {r : List (Option D)} {S : Sto} {Q : D → Sto → Prop} (h : Q d S) : WV (mVar 13 (x0 :: x1 :: x2 :: x3 :: x4 :: x5 :: x6 :: x7 :: x8 :: x9 :: x10 :: x11 :: x12 :: some d :: r) S) Q := wv_var rfl h
theorem s13 {x0 : Option D} {x1 : Option D} {x2 : Option D} {x3 : Option D} {x4 : Option D} {x5 : Option D} {x6 : Option D} {x7 : Option D} {x8 : Option D} {x9 : Option D} {x10 : Option D} {x11 : Option D} {x12 : Option D} {x : Option D} {r : List (Option D)} {S : Sto} {m : M D} {N B C : Env → Sto → Prop} {T : D → Sto → Prop} (h : WV (m (x0 :: x1 :: x2 :: x3 :: x4 :: x5 :: x6 :: x7 :: x8 :: x9 :: x10 :: x11 :: x12 :: x :: r) S) fun d S1 => N (x0 :: x1 :: x2 :: x3 :: x4 :: x5 :: x6 :: x7 :: x8 :: x9 :: x10 :: x11 :: x12 :: some d :: r) S1) : WS (sSet 13 m (x0 :: x1 :: x2 :: x3 :: x4 :: x5 :: x6 :: x7 :: x8 :: x9 :: x10 :: x11 :: x12 :: x :: r) S) N T B C := ws_set h
theorem v14 {x0 : Option D} {x1 : Option D} {x2 : Option D} {x3 : Option D} {x4 : Option D} {x5 : Option D} {x6 : Option D} {x7 : Option D} {x8 : Option D} {x9 : Option D} {x10 : Option D} {x11 : Option D} {x12 : Option D} {x13 : Option D} {d : D} {r : List (Option D)} {S : Sto} {Q : D → Sto → Prop} (h : Q d S) : WV (mVar 14 (x0 :: x1 :: x2 :: x3 :: x4 :: x5 :: x6 :: x7 :: x8 :: x9 :: x10 :: x11 :: x12 :: x13 :: some d :: r) S) Q := wv_var rfl h
theorem s14 {x0 : Option D} {x1 : Option D} {x2 : Option D} {x3 : Option D} {x4 : Option D} {x5 : Option D} {x6 : Option D} {x7 : Option D} {x8 : Option D} {x9 : Option D} {x10 : Option D} {x11 : Option D} {x12 : Option D} {x13 : Option D} {x : Option D} {r : List (Option D)} {S : Sto} {m : M D} {N B C : Env → Sto → Prop} {T : D → Sto → Prop} (h : WV (m (x0 :: x1 :: x2 :: x3 :: x4 :: x5 :: x6 :: x7 :: x8 :: x9 :: x10 :: x11 :: x12 :: x13 :: x :: r) S) fun d S1 => N (x0 :: x1 :: x2 :: x3 :: x4 :: x5 :: x6 :: x7 :: x8 :: x9 :: x10 :: x11 :: x12 :: x13 :: some d :: r) S1) : WS (sSet 14 m (x0 :: x1 :: x2 :: x3 :: x4 :: x5 :: x6 :: x7 :: x8 :: x9 :: x10 :: x11 :: x12 :: x13 :: x :: r) S) N T B C := ws_set h
theorem v15 {x0 : Option D} {x1 : Option D} {x2 : Option D} {x3 : Option D} {x4 : Option D} {x5 : Option D} {x6 : Option D} {x7 : Option D} {x8 : Option D} {x9 : Option D} {x10 : Option D} {x11 : Option D} {x12 : Option D} {x13 : Option D} {x14 : Option D} {d : D} {r : List (Option D)} {S : Sto} {Q : D → Sto → Prop} (h : Q d S) : WV (mVar 15 (x0 :: x1 :: x2 :: x3 :: x4 :: x5 :: x6 :: x7 :: x8 :: x9 :: x10 :: x11 :: x12 :: x13 :: x14 :: some d :: r) S) Q := wv_var rfl h
theorem s15 {x0 : Option D} {x1 : Option D} {x2 : Option D} {x3 : Option D} {x4 : Option D} {x5 : Option D} {x6 : Option D} {x7 : Option D} {x8 : Option D} {x9 : Option D} {x10 : Option D} {x11 : Option D} {x12 : Option D} {x13 : Option D} {x14 : Option D} {x : Option D} {r : List (Option D)} {S : Sto} {m : M D} {N B C : Env → Sto → Prop} {T : D → Sto → Prop} (h : WV (m (x0 :: x1 :: x2 :: x3 :: x4 :: x5 :: x6 :: x7 :: x8 :: x9 :: x10 :: x11 :: x12 :: x13 :: x14 :: x :: r) S) fun d S1 => N (x0 :: x1 :: x2 :: x3 :: x4 :: x5 :: x6 :: x7 :: x8 :: x9 :: x10 :: x11 :: x12 :: x13 :: x14 :: some d :: r) S1) : WS (sSet 15 m (x0 :: x1 :: x2 :: x3 :: x4 :: x5 :: x6 :: x7 :: x8 :: x9 :: x10 :: x11 :: x12 :: x13 :: x14 :: x :: r) S) N T B C := ws_set h
theorem v16 {x0 : Option D} {x1 : Option D} {x2 : Option D} {x3 : Option D} {x4 : Option D} {x5 : Option D} {x6 : Option D} {x7 : Option D} {x8 : Option D} {x9 : Option D} {x10 : Option D} {x11 : Option D} {x12 : Option D} {x13 : Option D} {x14 : Option D} {x15 : Option D} {d : D} {r : List (Option D)} {S : Sto} {Q : D → Sto → Prop} (h : Q d S) : WV (mVar 16 (x0 :: x1 :: x2 :: x3 :: x4 :: x5 :: x6 :: x7 :: x8 :: x9 :: x10 :: x11 :: x12 :: x13 :: x14 :: x15 :: some d :: r) S) Q := wv_var rfl h
theorem s16 {x0 : Option D} {x1 : Option D} {x2 : Option D} {x3 : Option D} {x4 : Option D} {x5 : Option D} {x6 : Option D} {x7 : Option D} {x8 : Option D} {x9 : Option D} {x10 : Option D} {x11 : Option D} {x12 : Option D} {x13 : Option D} {x14 : Option D} {x15 : Option D} {x : Option D} {r : List (Option D)} {S : Sto} {m : M D} {N B C : Env → Sto → Prop} {T : D → Sto → Prop} (h : WV (m (x0 :: x1 :: x2 :: x3 :: x4 :: x5 :: x6 :: x7 :: x8 :: x9 :: x10 :: x11 :: x12 :: x13 :: x14 :: x15 :: x :: r) S) fun d S1 => N (x0 :: x1 :: x2 :: x3 :: x4 :: x5 :: x6 :: x7 :: x8 :: x9 :: x10 :: x11 :: x12 :: x13 :: x14 :: x15 :: some d :: r) S1) : WS (sSet 16 m (x0 :: x1 :: x2 :: x3 :: x4 :: x5 :: x6 :: x7 :: x8 :: x9 :: x10 :: x11 :: x12 :: x13 :: x14 :: x15 :: x :: r) S) N T B C := ws_set h
theorem v17 {x0 : Option D} {x1 : Option D} {x2 : Option D} {x3 : Option D} {x4 : Option D} {x5 : Option D} {x6 : Option D} {x7 : Option D} {x8 : Option D} {x9 : Option D} {x10 : Option D} {x11 : Option D} {x12 : Option D} {x13 : Option D} {x14 : Option D} {x15 : Option D} {x16 : Option D} {d : D} {r : List (Option D)} {S : Sto} {Q : D → Sto → Prop} (h : Q d S) : WV (mVar 17 (x0 :: x1 :: x2 :: x3 :: x4 :: x5 :: x6 :: x7 :: x8 :: x9 :: x10 :: x11 :: x12 :: x13 :: x14 :: x15 :: x16 :: some d :: r) S) Q := wv_var rfl h
theorem s17 {x0 : Option D} {x1 : Option D} {x2 : Option D} {x3 : Option D} {x4 : Option D} {x5 : Option D} {x6 : Option D} {x7 : Option D} {x8 : Option D} {x9 : Option D} {x10 : Option D} {x11 : Option D} {x12 : Option D} {x13 : Option D} {x14 : Option D} {x15 : Option D} {x16 : Option D} {x : Option D} {r : List (Option D)} {S : Sto} {m : M D} {N B C : Env → Sto → Prop} {T : D → Sto → Prop} (h : WV (m (x0 :: x1 :: x2 :: x3 :: x4 :: x5 :: x6 :: x7 :: x8 :: x9 :: x10 :: x11 :: x12 :: x13 :: x14 :: x15 :: x16 :: x :: r) S) fun d S1 => N (x0 :: x1 :: x2 :: x3 :: x4 :: x5 :: x6 :: x7 :: x8 :: x9 :: x10 :: x11 :: x12 :: x13 :: x14 :: x15 :: x16 :: some d :: r) S1) : WS (sSet 17 m (x0 :: x1 :: x2 :: x3 :: x4 :: x5 :: x6 :: x7 :: x8 :: x9 :: x10 :: x11 :: x12 :: x13 :: x14 :: x15 :: x16 :: x :: r) S) N T B C := ws_set h
theorem v18 {x0 : Option D} {x1 : Option D} {x2 : Option D} {x3 : Option D} {x4 : Option D} {x5 : Option D} {x6 : Option D} {x7 : Option D} {x8 : Option D} {x9 : Option D} {x10 : Option D} {x11 : Option D} {x12 : Option D} {x13 : Option D} {x14 : Option D} {x15 : Option D} {x16 : Option D} {x17 : Option D} {d : D} {r : List (Option D)} {S : Sto} {Q : D → Sto → Prop} (h : Q d S) : WV (mVar 18 (x0 :: x1 :: x2 :: x3 :: x4 :: x5 :: x6 :: x7 :: x8 :: x9 :: x10 :: x11 :: x12 :: x13 :: x14 :: x15 :: x16 :: x17 :: some d :: r) S) Q := wv_var rfl h
theorem s18 {x0 : Option D} {x1 : Option D} {x2 : Option D} {x3 : Option D} {x4 : Option D} {x5 : Option D} {x6 : Option D} {x7 : Option D} {x8 : Option D} {x9 : Option D} {x10 : Option D} {x11 : Option D} {x12 : Option D} {x13 : Option D} {x14 : Option D} {x15 : Option D} {x16 : Option D} {x17 : Option D} {x : Option D} {r : List (Option D)} {S : Sto} {m : M D} {N B C : Env → Sto → Prop} {T : D → Sto → Prop} (h : WV (m (x0 :: x1 :: x2 :: x3 :: x4 :: x5 :: x6 :: x7 :: x8 :: x9 :: x10 :: x11 :: x12 :: x13 :: x14 :: x15 :: x16 :: x17 :: x :: r) S) fun d S1 => N (x0 :: x1 :: x2 :: x3 :: x4 :: x5 :: x6 :: x7 :: x8 :: x9 :: x10 :: x11 :: x12 :: x13 :: x14 :: x15 :: x16 :: x17 :: some d :: r) S1) : WS (sSet 18 m (x0 :: x1 :: x2 :: x3 :: x4 :: x5 :: x6 :: x7 :: x8 :: x9 :: x10 :: x11 :: x12 :: x13 :: x14 :: x15 :: x16 :: x17 :: x :: r) S) N T B C := ws_set h
theorem v19 {x0 : Option D} {x1 : Option D} {x2 : Option D} {x3 : Option D} {x4 : Option D} {x5 : Option D} {x6 : Option D} {x7 : Option D} {x8 : Option D} {x9 : Option D} {x10 : Option D} {x11 : Option D} {x12 : Option D} {x13 : Option D} {x14 : Option D} {x15 : Option D} {x16 : Option D} {x17 : Option D} {x18 : Option D} {d : D} {r : List (Option D)} {S : Sto} {Q : D → Sto → Prop} (h : Q d S) : WV (mVar 19 (x0 :: x1 :: x2 :: x3 :: x4 :: x5 :: x6 :: x7 :: x8 :: x9 :: x10 :: x11 :: x12 :: x13 :: x14 :: x15 :: x16 :: x17 :: x18 :: some d :: r) S) Q := wv_var rfl h
theorem s19 {x0 : Option D} {x1 : Option D} {x2 : Option D} {x3 : Option D} {x4 : Option D} {x5 : Option D} {x6 : Option D} {x7 : Option D} {x8 : Option D} {x9 : Option D} {x10 : Option D} {x11 : Option D} {x12 : Option D} {x13 : Option D} {x14 : Option D} {x15 : Option D} {x16 : Option D} {x17 : Option D} {x18 : Option D} {x : Option D} {r : List (Option D)} {S : Sto} {m : M D} {N B C : Env → Sto → Prop} {T : D → Sto → Prop} (h : WV (m (x0 :: x1 :: x2 :: x3 :: x4 :: x5 :: x6 :: x7 :: x8 :: x9 :: x10 :: x11 :: x12 :: x13 :: x14 :: x15 :: x16 :: x17 :: x18 :: x :: r) S) fun d S1 => N (x0 :: x1 :: x2 :: x3 :: x4 :: x5 :: x6 :: x7 :: x8 :: x9 :: x10 :: x11 :: x12 :: x13 :: x14 :: x15 :: x16 :: x17 :: x18 :: some d :: r) S1) : WS (sSet 19 m (x0 :: x1 :: x2 :: x3 :: x4 :: x5 :: x6 :: x7 :: x8 :: x9 :: x10 :: x11 :: x12 :: x13 :: x14 :: x15 :: x16 :: x17 :: x18 :: x :: r) S) N T B C := ws_set h
theorem v20 {x0 : Option D} {x1 : Option D} {x2 : Option D} {x3 : Option D} {x4 : Option D} {x5 : Option D} {x6 : Option D} {x7 : Option D} {x8 : Option D} {x9 : Option D} {x10 : Option D} {x11 : Option D} {x12 : Option D} {x13 : Option D} {x14 : Option D} {x15 : Option D} {x16 : Option D} {x17 : Option D} {x18 : Option D} {x19 : Option D} {d : D} {r : List (Option D)} {S : Sto} {Q : D → Sto → Prop} (h : Q d S) : WV (mVar 20 (x0 :: x1 :: x2 :: x3 :: x4 :: x5 :: x6 :: x7 :: x8 :: x9 :: x10 :: x11 :: x12 :: x13 :: x14 :: x15 :: x16 :: x17 :: x18 :: x19 :: some d :: r) S) Q := wv_var rfl h
theorem s20 {x0 : Option D} {x1 : Option D} {x2 : Option D} {x3 : Option D} {x4 : Option D} {x5 : Option D} {x6 : Option D} {x7 : Option D} {x8 : Option D} {x9 : Option D} {x10 : Option D} {x11 : Option D} {x12 : Option D} {x13 : Option D} {x14 : Option D} {x15 : Option D} {x16 : Option D} {x17 : Option D} {x18 : Option D} {x19 : Option D} {x : Option D} {r : List (Option D)} {S : Sto} {m : M D} {N B C : Env → Sto → Prop} {T : D → Sto → Prop} (h : WV (m (x0 :: x1 :: x2 :: x3 :: x4 :: x5 :: x6 :: x7 :: x8 :: x9 :: x10 :: x11 :: x12 :: x13 :: x14 :: x15 :: x16 :: x17 :: x18 :: x19 :: x :: r) S) fun d S1 => N (x0 :: x1 :: x2 :: x3 :: x4 :: x5 :: x6 :: x7 :: x8 :: x9 :: x10 :: x11 :: x12 :: x13 :: x14 :: x15 :: x16 :: x17 :: x18 :: x19 :: some d :: r) S1) : WS (sSet 20 m (x0 :: x1 :: x2 :: x3 :: x4 :: x5 :: x6 :: x7 :: x8 :: x9 :: x10 :: x11 :: x12 :: x13 :: x14 :: x15 :: x16 :: x17 :: x18 :: x19 :: x :: r) S) N T B C := ws_set h
theorem v21 {x0 : Option D} {x1 : Option D} {x2 : Option D} {x3 : Option D} {x4 : Option D} {x5 : Option D} {x6 : Option D} {x7 : Option D} {x8 : Option D} {x9 : Option D} {x10 : Option D} {x11 : Option D} {x12 : Option D} {x13 : Option D} {x14 : Option D} {x15 : Option D} {x16 : Option D} {x17 : Option D} {x18 : Option D} {x19 : Option D} {x20 : Option D} {d : D} {r : List (Option D)} {S : Sto} {Q : D → Sto → Prop} (h : Q d S) : WV (mVar 21 (x0 :: x1 :: x2 :: x3 :: x4 :: x5 :: x6 :: x7 :: x8 :: x9 :: x10 :: x11 :: x12 :: x13 :: x14 :: x15 :: x16 :: x17 :: x18 :: x19 :: x20 :: some d :: r) S) Q := wv_var rfl h
theorem s21 {x0 : Option D} {x1 : Option D} {x2 : Option D} {x3 : Option D} {x4 : Option D} {x5 : Option D} {x6 : Option D} {x7 : Option D} {x8 : Option D} {x9 : Option D} {x10 : Option D} {x11 : Option D} {x12 : Option D} {x13 : Option D} {x14 : Option D} {x15 : Option D} {x16 : Option D} {x17 : Option D} {x18 : Option D} {x19 : Option D} {x20 : Option D} {x : Option D} {r : List (Option D)} {S : Sto} {m : M D} {N B C : Env → Sto → Prop} {T : D → Sto → Prop} (h : WV (m (x0 :: x1 :: x2 :: x3 :: x4 :: x5 :: x6 :: x7 :: x8 :: x9 :: x10 :: x11 :: x12 :: x13 :: x14 :: x15 :: x16 :: x17 :: x18 :: x19 :: x20 :: x :: r) S) fun d S1 => N (x0 :: x1 :: x2 :: x3 :: x4 :: x5 :: x6 :: x7 :: x8 :: x9 :: x10 :: x11 :: x12 :: x13 :: x14 :: x15 :: x16 :: x17 :: x18 :: x19 :: x20 :: some d :: r) S1) : WS (sSet 21 m (x0 :: x1 :: x2 :: x3 :: x4 :: x5 :: x6 :: x7 :: x8 :: x9 :: x10 :: x11 :: x12 :: x13 :: x14 :: x15 :: x16 :: x17 :: x18 :: x19 :: x20 :: x :: r) S) N T B C := ws_set h
theorem v22 {x0 : Option D} {x1 : Option D} {x2 : Option D} {x3 : Option D} {x4 : Option D} {x5 : Option D} {x6 : Option D} {x7 : Option D} {x8 : Option D} {x9 : Option D} {x10 : Option D} {x11 : Option D} {x12 : Option D} {x13 : Option D} {x14 : Option D} {x15 : Option D} {x16 : Option D} {x17 : Option D} {x18 : Option D} {x19 : Option D} {x20 : Option D} {x21 : Option D} {d : D} {r : List (Option D)} {S : Sto} {Q : D → Sto → Prop} (h : Q d S) : WV (mVar 22 (x0 :: x1 :: x2 :: x3 :: x4 :: x5 :: x6 :: x7 :: x8 :: x9 :: x10 :: x11 :: x12 :: x13 :: x14 :: x15 :: x16 :: x17 :: x18 :: x19 :: x20 :: x21 :: some d :: r) S) Q := wv_var rfl h
theorem s22 {x0 : Option D} {x1 : Option D} {x2 : Option D} {x3 : Option D} {x4 : Option D} {x5 : Option D} {x6 : Option D} {x7 : Option D} {x8 : Option D} {x9 : Option D} {x10 : Option D} {x11 : Option D} {x12 : Option D} {x13 : Option D} {x14 : Option D} {x15 : Option D} {x16 : Option D} {x17 : Option D} {x18 : Option D} {x19 : Option D} {x20 : Option D} {x21 : Option D} {x : Option D} {r : List (Option D)} {S : Sto} {m : M D} {N B C : Env → Sto → Prop} {T : D → Sto → Prop} (h : WV (m (x0 :: x1 :: x2 :: x3 :: x4 :: x5 :: x6 :: x7 :: x8 :: x9 :: x10 :: x11 :: x12 :: x13 :: x14 :: x15 :: x16 :: x17 :: x18 :: x19 :: x20 :: x21 :: x :: r) S) fun d S1 => N (x0 :: x1 :: x2 :: x3 :: x4 :: x5 :: x6 :: x7 :: x8 :: x9 :: x10 :: x11 :: x12 :: x13 :: x14 :: x15 :: x16 :: x17 :: x18 :: x19 :: x20 :: x21 :: some d :: r) S1) : WS (sSet 22 m (x0 :: x1 :: x2 :: x3 :: x4 :: x5 :: x6 :: x7 :: x8 :: x9 :: x10 :: x11 :: x12 :: x13 :: x14 :: x15 :: x16 :: x17 :: x18 :: x19 :: x20 :: x21 :: x :: r) S) N T B C := ws_set h
theorem v23 {x0 : Option D} {x1 : Option D} {x2 : Option D} {x3 : Option D} {x4 : Option D} {x5 : Option D} {x6 : Option D} {x7 : Option D} {x8 : Option D} {x9 : Option D} {x10 : Option D} {x11 : Option D} {x12 : Option D} {x13 : Option D} {x14 : Option D} {x15 : Option D} {x16 : Option D} {x17 : Option D} {x18 : Option D} {x19 : Option D} {x20 : Option D} {x21 : Option D} {x22 : Option D} {d : D} {r : List (Option D)} {S : Sto} {Q : D → Sto → Prop} (h : Q d S) : WV (mVar 23 (x0 :: x1 :: x2 :: x3 :: x4 :: x5 :: x6 :: x7 :: x8 :: x9 :: x10 :: x11 :: x12 :: x13 :: x14 :: x15 :: x16 :: x17 :: x18 :: x19 :: x20 :: x21 :: x22 :: some d :: r) S) Q := wv_var rfl h
theorem s23 {x0 : Option D} {x1 : Option D} {x2 : Option D} {x3 : Option D} {x4 : Option D} {x5 : Option D} {x6 : Option D} {x7 : Option D} {x8 : Option D} {x9 : Option D} {x10 : Option D} {x11 : Option D} {x12 : Option D} {x13 : Option D} {x14 : Option D} {x15 : Option D} {x16 : Option D} {x17 : Option D} {x18 : Option D} {x19 : Option D} {x20 : Option D} {x21 : Option D} {x22 : Option D} {x : Option D} {r : List (Option D)} {S : Sto} {m : M D} {N B C : Env → Sto → Prop} {T : D → Sto → Prop} (h : WV (m (x0 :: x1 :: x2 :: x3 :: x4 :: x5 :: x6 :: x7 :: x8 :: x9 :: x10 :: x11 :: x12 :: x13 :: x14 :: x15 :: x16 :: x17 :: x18 :: x19 :: x20 :: x21 :: x22 :: x :: r) S) fun d S1 => N (x0 :: x1 :: x2 :: x3 :: x4 :: x5 :: x6 :: x7 :: x8 :: x9 :: x10 :: x11 :: x12 :: x13 :: x14 :: x15 :: x16 :: x17 :: x18 :: x19 :: x20 :: x21 :: x22 :: some d :: r) S1) : WS (sSet 23 m (x0 :: x1 :: x2 :: x3 :: x4 :: x5 :: x6 :: x7 :: x8 :: x9 :: x10 :: x11 :: x12 :: x13 :: x14 :: x15 :: x16 :: x17 :: x18 :: x19 :: x20 :: x21 :: x22 :: x :: r) S) N T B C := ws_set h
theorem v24 {x0 : Option D} {x1 : Option D} {x2 : Option D} {x3 : Option D} {x4 : Option D} {x5 : Option D} {x6 : Option D} {x7 : Option D} {x8 : Option D} {x9 : Option D} {x10 : Option D} {x11 : Option D} {x12 : Option D} {x13 : Option D} {x14 : Option D} {x15 : Option D} {x16 : Option D} {x17 : Option D} {x18 : Option D} {x19 : Option D} {x20 : Option D} {x21 : Option D} {x22 : Option D} {x23 : Option D} {d : D} {r : List (Option D)} {S : Sto} {Q : D → Sto → Prop} (h : Q d S) : WV (mVar 24 (x0 :: x1 :: x2 :: x3 :: x4 :: x5 :: x6 :: x7 :: x8 :: x9 :: x10 :: x11 :: x12 :: x13 :: x14 :: x15 :: x16 :: x17 :: x18 :: x19 :: x20 :: x21 :: x22 :: x23 :: some d :: r) S) Q := wv_var rfl h
theorem s24 {x0 : Option D} {x1 : Option D} {x2 : Option D} {x3 : Option D} {x4 : Option D} {x5 : Option D} {x6 : Option D} {x7 : Option D} {x8 : Option D} {x9 : Option D} {x10 : Option D} {x11 : Option D} {x12 : Option D} {x13 : Option D} {x14 : Option D} {x15 : Option D} {x16 : Option D} {x17 : Option D} {x18 : Option D} {x19 : Option D} {x20 : Option D} {x21 : Option D} {x22 : Option D} {x23 : Option D} {x : Option D} {r : List (Option D)} {S : Sto} {m : M D} {N B C : Env → Sto → Prop} {T : D → Sto → Prop} (h : WV (m (x0 :: x1 :: x2 :: x3 :: x4 :: x5 :: x6 :: x7 :: x8 :: x9 :: x10 :: x11 :: x12 :: x13 :: x14 :: x15 :: x16 :: x17 :: x18 :: x19 :: x20 :: x21 :: x22 :: x23 :: x :: r) S) fun d S1 => N (x0 :: x1 :: x2 :: x3 :: x4 :: x5 :: x6 :: x7 :: x8 :: x9 :: x10 :: x11 :: x12 :: x13 :: x14 :: x15 :: x16 :: x17 :: x18 :: x19 :: x20 :: x21 :: x22 :: x23 :: some d :: r) S1) : WS (sSet 24 m (x0 :: x1 :: x2 :: x3 :: x4 :: x5 :: x6 :: x7 :: x8 :: x9 :: x10 :: x11 :: x12 :: x13 :: x14 :: x15 :: x16 :: x17 :: x18 :: x19 :: x20 :: x21 :: x22 :: x23 :: x :: r) S) N T B C := ws_set h
theorem v25 {x0 : Option D} {x1 : Option D} {x2 : Option D} {x3 : Option D} {x4 : Option D} {x5 : Option D} {x6 : Option D} {x7 : Option D} {x8 : Option D} {x9 : Option D} {x10 : Option D} {x11 : Option D} {x12 : Option D} {x13 : Option D} {x14 : Option D} {x15 : Option D} {x16 : Option D} {x17 : Option D} {x18 : Option D} {x19 : Option D} {x20 : Option D} {x21 : Option D} {x22 : Option D} {x23 : Option D} {x24 : Option D} {d : D} {r : List (Option D)} {S : Sto} {Q : D → Sto → Prop} (h : Q d S) : WV (mVar 25 (x0 :: x1 :: x2 :: x3 :: x4 :: x5 :: x6 :: x7 :: x8 :: x9 :: x10 :: x11 :: x12 :: x13 :: x14 :: x15 :: x16 :: x17 :: x18 :: x19 :: x20 :: x21 :: x22 :: x23 :: x24 :: some d :: r) S) Q := wv_var rfl h
theorem s25 {x0 : Option D} {x1 : Option D} {x2 : Option D} {x3 : Option D} {x4 : Option D} {x5 : Option D} {x6 : Option D} {x7 : Option D} {x8 : Option D} {x9 : Option D} {x10 : Option D} {x11 : Option D} {x12 : Option D} {x13 : Option D} {x14 : Option D} {x15 : Option D} {x16 : Option D} {x17 : Option D} {x18 : Option D} {x19 : Option D} {x20 : Option D} {x21 : Option D} {x22 : Option D} {x23 : Option D} {x24 : Option D} {x : Option D} {r : List (Option D)} {S : Sto} {m : M D} {N B C : Env → Sto → Prop} {T : D → Sto → Prop} (h : WV (m (x0 :: x1 :: x2 :: x3 :: x4 :: x5 :: x6 :: x7 :: x8 :: x9 :: x10 :: x11 :: x12 :: x13 :: x14 :: x15 :: x16 :: x17 :: x18 :: x19 :: x20 :: x21 :: x22 :: x23 :: x24 :: x :: r) S) fun d S1 => N (x0 :: x1 :: x2 :: x3 :: x4 :: x5 :: x6 :: x7 :: x8 :: x9 :: x10 :: x11 :: x12 :: x13 :: x14 :: x15 :: x16 :: x17 :: x18 :: x19 :: x20 :: x21 :: x22 :: x23 :: x24 :: some d :: r) S1) : WS (sSet 25 m (x0 :: x1 :: x2 :: x3 :: x4 :: x5 :: x6 :: x7 :: x8 :: x9 :: x10 :: x11 :: x12 :: x13 :: x14 :: x15 :: x16 :: x17 :: x18 :: x19 :: x20 :: x21 :: x22 :: x23 :: x24 :: x :: r) S) N T B C := ws_set h
theorem exI {i : Int} {P : Int → Prop} (h : P i) : ∃ j, D.int i = .int j ∧ P j := ⟨i, rfl, h⟩
theorem exT {c : Bool} {P : Bool → Prop} (h : P c) : ∃ c', D.bl c = .bl c' ∧ P c' := ⟨c, rfl, h⟩
theorem exTru {c : Bool} {S : Sto} {P : Bool → Prop} (h : P c) : ∃ c', truD (.bl c) S = some c' ∧ P c' := ⟨c, rfl, h⟩
theorem ifT {A B : Prop} (h : A) : (true = true → A) ∧ (true = false → B) := ⟨fun _ => h, fun z => nomatch z⟩
theorem ifF {A B : Prop} (h : B) : (false = true → A) ∧ (false = false → B) := ⟨fun z => (nomatch z), fun _ => h⟩
theorem ifT' {A B : Prop} (h : A) : (true = false → B) ∧ (true = true → A) := ⟨fun z => (nomatch z), fun _ => h⟩
theorem ifF' {A B : Prop} (h : B) : (false = false → B) ∧ (false = true → A) := ⟨fun _ => h, fun z => (nomatch z)⟩
theorem nf1 {A B : Prop} (h : A) : ((!true) = false → A) ∧ ((!true) = true → B) := ⟨fun _ => h, fun z => (nomatch z)⟩
theorem nf2 {A B : Prop} (h : B) : ((!true) = true → A) ∧ ((!true) = false → B) := ⟨fun z => (nomatch z), fun _ => h⟩
theorem nf3 {A B : Prop} (h : B) : ((!false) = false → A) ∧ ((!false) = true → B) := ⟨fun z => (nomatch z), fun _ => h⟩
theorem nf4 {A B : Prop} (h : A) : ((!false) = true → A) ∧ ((!false) = false → B) := ⟨fun _ => h, fun z => (nomatch z)⟩
theorem len0 {P : Prop} (h : P) : ([] : List D).length ≤ 1000 ∧ P := ⟨by decide, h⟩
theorem len1 {a : D} {P : Prop} (h : P) : [a].length ≤ 1000 ∧ P := ⟨by show 1 ≤ 1000; decide, h⟩
theorem len2 {a b : D} {P : Prop} (h : P) : [a, b].length ≤ 1000 ∧ P := ⟨by show 2 ≤ 1000; decide, h⟩
theorem len3 {a b c : D} {P : Prop} (h : P) : [a, b, c].length ≤ 1000 ∧ P := ⟨by show 3 ≤ 1000; decide, h⟩
theorem len4 {a b c d : D} {P : Prop} (h : P) : [a, b, c, d].length ≤ 1000 ∧ P := ⟨by show 4 ≤ 1000; decide, h⟩

/-! operations -/

section
variable {S : Sto} {Q : D → Sto → Prop} {i j : Int}
theorem g_add (h : Q (.int (i + j)) S) : WG (gAdd (.int i) (.int j) S) Q := ⟨_, _, rfl, h⟩
theorem g_sub (h : Q (.int (i - j)) S) : WG (gSub (.int i) (.int j) S) Q := ⟨_, _, rfl, h⟩
theorem g_iadd (h : Q (.int (i + j)) S) : WG (giAdd (.int i) (.int j) S) Q := ⟨_, _, rfl, h⟩
theorem g_isub (h : Q (.int (i - j)) S) : WG (giSub (.int i) (.int j) S) Q := ⟨_, _, rfl, h⟩
theorem g_mul (k : mulOk i j = true) (h : Q (.int (i * j)) S) : WG (gMul (.int i) (.int j) S) Q := ⟨_, _, mul_ii k, h⟩
theorem g_div (k : divOk i j = true) (h : Q (.int (i.fdiv j)) S) : WG (gDiv (.int i) (.int j) S) Q := ⟨_, _, div_ii k, h⟩
theorem g_mod (k : j ≠ 0) (h : Q (.int (i.fmod j)) S) : WG (gMod (.int i) (.int j) S) Q := ⟨_, _, mod_ii k, h⟩
theorem g_lt (h : Q (.bl (decide (i < j))) S) : WG (gLt (.int i) (.int j) S) Q := ⟨_, _, rfl, h⟩
theorem g_le (h : Q (.bl (decide (i ≤ j))) S) : WG (gLe (.int i) (.int j) S) Q := ⟨_, _, rfl, h⟩
theorem g_gt (h : Q (.bl (decide (j < i))) S) : WG (gGt (.int i) (.int j) S) Q := ⟨_, _, rfl, h⟩
theorem g_ge (h : Q (.bl (decide (j ≤ i))) S) : WG (gGe (.int i) (.int j) S) Q := ⟨_, _, rfl, h⟩
theorem g_eq (h : Q (.bl (decide (i = j))) S) : WG (gEq (.int i) (.int j) S) Q := ⟨_, _, rfl, h⟩
theorem g_ne (h : Q (.bl (!decide (i = j))) S) : WG (gNe (.int i) (.int j) S) Q := ⟨_, _, rfl, h⟩
theorem g_neg (h : Q (.int (-i)) S) : WG (gNeg (.int i) S) Q := ⟨_, _, rfl, h⟩
theorem g_not {c : Bool} (h : Q (.bl (!c)) S) : WG (gNot (.bl c) S) Q := ⟨_, _, rfl, h⟩
theorem g_gcd (h : Q (.int ((Nat.gcd i.natAbs j.natAbs : Nat) : Int)) S) : WG (gGcd [.int i, .int j] S) Q := ⟨_, _, rfl, h⟩
theorem g_lcm (k1 : lcmOk i = true) (k2 : lcmOk j = true) (h : Q (.int ((Nat.lcm i.natAbs j.natAbs : Nat) : Int)) S) : WG (gLcm [.int i, .int j] S) Q := ⟨_, _, by unfold gLcm; dsimp only; rw [k1, k2]; rfl, h⟩
theorem g_abs (h : Q (.int (if i < 0 then -i else i)) S) : WG (gAbs [.int i] S) Q := ⟨_, _, rfl, h⟩
theorem g_int (h : Q (.int i) S) : WG (gInt [.int i] S) Q := ⟨_, _, rfl, h⟩
theorem g_intb {k : Bool} (h : Q (.int (if k then 1 else 0)) S) : WG (gInt [.bl k] S) Q := ⟨_, _, rfl, h⟩
theorem g_ixT {k : Nat} {x : D} {xs : List D} (e : xs[k]? = some x) (h : Q x S) : WG (gIx (.tup xs) (.int (k : Int)) S) Q := ⟨_, _, ixT e, h⟩
theorem g_ixR {id k : Nat} {x : D} {xs : List D} (hs : S[id]? = some (.lst xs)) (e : xs[k]? = some x) (h : Q x S) : WG (gIx (.ref id) (.int (k : Int)) S) Q := ⟨_, _, ixR hs e, h⟩
theorem g_ix0 {x : D} {xs : List D} (h : Q x S) : WG (gIx (.tup (x :: xs)) (.int 0) S) Q := ⟨_, _, ix0, h⟩
theorem g_ix1 {x y : D} {xs : List D} (h : Q y S) : WG (gIx (.tup (x :: y :: xs)) (.int 1) S) Q := ⟨_, _, ix1, h⟩
theorem g_ix2 {x y z : D} {xs : List D} (h : Q z S) : WG (gIx (.tup (x :: y :: z :: xs)) (.int 2) S) Q := ⟨_, _, ix2, h⟩
theorem g_nq0 {q : Rat} (h : Q (.int q.num) S) : WG (gIx (nq q) (.int 0) S) Q := ⟨_, _, ix0, h⟩
theorem g_nq1 {q : Rat} (h : Q (.int (q.den : Int)) S) : WG (gIx (nq q) (.int 1) S) Q := ⟨_, _, ix1, h⟩
theorem g_lenT {xs : List D} (h : Q (.int xs.length) S) : WG (gLen [.tup xs] S) Q := ⟨_, _, len_tup, h⟩
theorem g_lenR {id : Nat} {xs : List D} (hs : S[id]? = some (.lst xs)) (h : Q (.int xs.length) S) : WG (gLen [.ref id] S) Q := ⟨_, _, len_ref hs, h⟩
theorem g_isi {a : D} {T n : String} {b : Bool} (e : tyD S a = some n) (k : kitB n T = some b) (h : Q (.bl b) S) : WG (gIsi [a, .ty T] S) Q := ⟨_, _, isi e k, h⟩
theorem g_catT {xs ys : List D} (k : xs.length + ys.length ≤ 1000000) (h : Q (.tup (xs ++ ys)) S) : WG (gAdd (.tup xs) (.tup ys) S) Q := ⟨_, _, by unfold gAdd orG gI gS gT; dsimp only; rw [if_pos (decide_eq_true k)], h⟩
theorem g_slT {xs : List D} {lo hi : Option Int} (h : Q (.tup (cutD xs lo hi)) S) : WG (slD S (.tup xs) lo hi) Q := ⟨_, _, rfl, h⟩
theorem cut_take {xs : List D} {k : Nat} : cutD xs none (some (k : Int)) = xs.take k := by
  unfold cutD
  have h1 : HT.sIx xs.length 0 none = 0 := rfl
  have h2 : HT.sIx xs.length xs.length (some (k : Int)) = min k xs.length := HT.sIx_nat _ _ _
  rw [h1, h2, List.drop_zero, Nat.sub_zero]
  by_cases c : k ≤ xs.length
  · rw [Nat.min_eq_left c]
  · rw [Nat.min_eq_right (by omega), List.take_length, List.take_of_length_le (by omega)]
theorem cut_drop {xs : List D} {k : Nat} : cutD xs (some (k : Int)) none = xs.drop k := by
  unfold cutD
  have h1 : HT.sIx xs.length xs.length none = xs.length := rfl
  have h2 : HT.sIx xs.length 0 (some (k : Int)) = min k xs.length := HT.sIx_nat _ _ _
  rw [h1, h2]
  by_cases c : k ≤ xs.length
  · rw [Nat.min_eq_left c, List.take_of_length_le (by rw [List.length_drop]; omega)]
  · rw [Nat.min_eq_right (by omega), List.drop_eq_nil_of_le (by omega), Nat.sub_self, List.take_zero, List.drop_eq_nil_of_le (by omega)]
theorem items_ref {id : Nat} {xs : List D} (hs : S[id]? = some (.lst xs)) : itemsOf S (.ref id) = some xs := by unfold itemsOf; dsimp only; rw [hs]
theorem g_tupR {id : Nat} {xs : List D} (hs : S[id]? = some (.lst xs)) (h : Q (.tup xs) S) : WG (gTupOf [.ref id] S) Q := ⟨_, _, by unfold gTupOf; dsimp only; rw [show isKt (.ref id) = false from rfl, if_neg (by decide), items_ref hs]; rfl, h⟩
theorem g_sortD {id : Nat} {kvs : List (List Key × D)} {L : List (List Int)} (hs : S[id]? = some (.dct kvs)) (k : intsK (kvs.map (·.1)) = some L) (hk : sortOk L = true) (h : Q (.ref S.length) (S ++ [.lst ((sortL L).map tupI)])) : WG (gSortD [.ref id] S) Q := ⟨_, _, by
  unfold gSortD
  dsimp only
  rw [show dctOf S (.ref id) = some kvs by unfold dctOf; dsimp only; rw [hs], Option.bind_some, k, Option.bind_some, if_pos hk], h⟩
end
end Rf
namespace Rf
open PySem PySem.Spec PyProof.Rows L2
/-! ### tables by exponents -/
section
variable {α β : Type}
abbrev Tab (α : Type) := List (List Int × α)
def lookA (T : Tab α) (e : List Int) : Option α := (T.find? fun t => decide (t.1 = e)).map (·.2)
def putA (T : Tab α) (e : List Int) (x : α) : Tab α := if (T.any fun t => decide (t.1 = e)) = true then T.map (fun t => if t.1 = e then (t.1, x) else t) else T ++ [(e, x)]
def keysA (T : Tab α) : List (List Int) := T.map (·.1)
def keyL (e : List Int) : List Key := e.map Sum.inl
def tabD (f : α → D) (T : Tab α) : List (List Key × D) := T.map fun t => (keyL t.1, f t.2)
theorem keyL_inj {a b : List Int} : keyL a = keyL b ↔ a = b := by
  unfold keyL
  constructor
  · intro h
    have := congrArg (List.map fun k : Key => match k with | .inl i => i | .inr _ => 0) h
    simpa [List.map_map, Function.comp_def] using this
  · intro h; rw [h]
theorem lookA_nil {e : List Int} : lookA ([] : Tab α) e = none := rfl
theorem lookA_cons {t : List Int × α} {T : Tab α} {e : List Int} : lookA (t :: T) e = if t.1 = e then some t.2 else lookA T e := by
  unfold lookA
  rw [List.find?_cons]
  by_cases c : t.1 = e
  · simp [c]
  · simp [c]
theorem any_keys {T : Tab α} {e : List Int} : (T.any fun t => decide (t.1 = e)) = true ↔ e ∈ keysA T := by
  unfold keysA
  rw [List.any_eq_true, List.mem_map]
  exact ⟨fun ⟨t, h, k⟩ => ⟨t, h, of_decide_eq_true k⟩, fun ⟨t, h, k⟩ => ⟨t, h, decide_eq_true k⟩⟩
theorem lookA_none {T : Tab α} {e : List Int} : lookA T e = none ↔ e ∉ keysA T := by
  induction T with
  | nil => simp [lookA_nil, keysA]
  | cons t T ih =>
    rw [lookA_cons]
    by_cases c : t.1 = e
    · simp [c, keysA]
    · rw [if_neg c, ih]
      simp only [keysA, List.map_cons, List.mem_cons, not_or]
      exact ⟨fun h => ⟨fun z => c z.symm, h⟩, fun h => h.2⟩
theorem lookA_map {T : Tab α} {f : α → β} {e : List Int} : lookA (T.map fun t => (t.1, f t.2)) e = (lookA T e).map f := by
  induction T with
  | nil => rfl
  | cons t T ih =>
    rw [List.map_cons, lookA_cons, lookA_cons, ih]
    by_cases c : t.1 = e
    · simp [c]
    · simp [c]
theorem lookA_append {T U : Tab α} {e : List Int} : lookA (T ++ U) e = (lookA T e).or (lookA U e) := by
  induction T with
  | nil => simp [lookA_nil]
  | cons t T ih =>
    rw [List.cons_append, lookA_cons, lookA_cons, ih]
    by_cases c : t.1 = e
    · simp [c]
    · simp [c]
theorem lookA_repl {T : Tab α} {e e' : List Int} {x : α} : lookA (T.map fun t => if t.1 = e then (t.1, x) else t) e' = if e' = e then (lookA T e').map (fun _ => x) else lookA T e' := by
  induction T with
  | nil => simp [lookA_nil]
  | cons t T ih =>
    rw [List.map_cons, lookA_cons, lookA_cons, ih]
    by_cases c : t.1 = e
    · by_cases c2 : e' = e
      · simp [c, c2]
      · have : ¬ e = e' := fun z => c2 z.symm
        simp [c, c2, this]
    · by_cases c2 : e' = e
      · subst c2
        simp [c]
      · simp [c, c2]
theorem lookA_put {T : Tab α} {e e' : List Int} {x : α} : lookA (putA T e x) e' = if e' = e then some x else lookA T e' := by
  unfold putA
  by_cases h : (T.any fun t => decide (t.1 = e)) = true
  · rw [if_pos h, lookA_repl]
    by_cases c : e' = e
    · subst c
      have : lookA T e' ≠ none := fun z => (lookA_none.mp z) (any_keys.mp h)
      cases h2 : lookA T e' with
      | none => exact absurd h2 this
      | some y => simp
    · simp [c]
  · rw [if_neg h, lookA_append, lookA_cons, lookA_nil]
    have h' : lookA T e = none := lookA_none.mpr fun z => h (any_keys.mpr z)
    by_cases c : e' = e
    · subst c
      simp [h']
    · have : ¬ e = e' := fun z => c z.symm
      simp [c, this]
theorem keys_put {T : Tab α} {e : List Int} {x : α} : keysA (putA T e x) = if e ∈ keysA T then keysA T else keysA T ++ [e] := by
  unfold putA
  by_cases h : (T.any fun t => decide (t.1 = e)) = true
  · rw [if_pos h, if_pos (any_keys.mp h)]
    unfold keysA
    rw [List.map_map]
    apply List.map_congr_left
    intro t _
    show (if t.1 = e then (t.1, x) else t).1 = t.1
    split <;> rfl
  · rw [if_neg h, if_neg (fun z => h (any_keys.mpr z))]
    unfold keysA
    rw [List.map_append]; rfl
theorem mem_keys_put {T : Tab α} {e e' : List Int} {x : α} : e' ∈ keysA (putA T e x) ↔ e' ∈ keysA T ∨ e' = e := by
  rw [keys_put]
  by_cases h : e ∈ keysA T
  · rw [if_pos h]
    exact ⟨.inl, fun z => z.elim id fun z => z ▸ h⟩
  · rw [if_neg h, List.mem_append, List.mem_singleton]
theorem nodup_put {T : Tab α} {e : List Int} {x : α} (h : (keysA T).Nodup) : (keysA (putA T e x)).Nodup := by
  rw [keys_put]
  split
  · exact h
  · rename_i c
    rw [List.nodup_append]
    exact ⟨h, List.nodup_cons.mpr ⟨fun z => (by cases z), List.nodup_nil⟩, fun a ha b hb z => c (by rw [List.mem_singleton] at hb; rw [← hb, ← z]; exact ha)⟩
theorem len_put {T : Tab α} {e : List Int} {x : α} : (putA T e x).length ≤ T.length + 1 := by
  have h := congrArg List.length (keys_put (T := T) (e := e) (x := x))
  unfold keysA at h
  rw [List.length_map] at h
  rw [h]
  split
  · rw [List.length_map]; omega
  · rw [List.length_append, List.length_map]; simp
theorem valD_tab {f : α → D} {T : Tab α} {e : List Int} : valD (tabD f T) (keyL e) = (lookA T e).map f := by
  induction T with
  | nil => rfl
  | cons t T ih =>
    rw [lookA_cons]
    unfold valD tabD at *
    rw [List.map_cons, List.find?_cons]
    by_cases c : t.1 = e
    · simp [c]
    · have : ¬ keyL t.1 = keyL e := fun z => c (keyL_inj.mp z)
      simp only [this, decide_false, if_neg c]
      exact ih
theorem putD_tab {f : α → D} {T : Tab α} {e : List Int} {x : α} : putD (tabD f T) (keyL e) (f x) = tabD f (putA T e x) := by
  unfold putD putA
  have h : ((tabD f T).any fun kv => decide (kv.1 = keyL e)) = (T.any fun t => decide (t.1 = e)) := by
    unfold tabD
    rw [List.any_map]
    congr 1
    funext t
    show decide (keyL t.1 = keyL e) = decide (t.1 = e)
    simp only [keyL_inj]
  rw [h]
  split
  · unfold tabD
    rw [List.map_map, List.map_map]
    apply List.map_congr_left
    intro t _
    show (if keyL t.1 = keyL e then (keyL t.1, f x) else (keyL t.1, f t.2)) = _
    simp only [keyL_inj, Function.comp]
    split <;> rfl
  · unfold tabD
    rw [List.map_append]; rfl
theorem intK_keyL (e : List Int) : intK (keyL e) = some e := by
  induction e with
  | nil => rfl
  | cons i r ih => unfold keyL at *; rw [List.map_cons, intK, ih]; rfl
theorem intsK_tab {f : α → D} {T : Tab α} : intsK ((tabD f T).map (·.1)) = some (keysA T) := by
  induction T with
  | nil => rfl
  | cons t T ih =>
    unfold tabD keysA at *
    rw [List.map_cons, List.map_cons, intsK, intK_keyL, Option.bind_some, ih]; rfl
theorem keysD_int (e : List Int) : keysD (e.map D.int) = some (keyL e) := by
  induction e with
  | nil => rfl
  | cons i r ih => unfold keyL at *; rw [List.map_cons, keysD, ih]; rfl
theorem keyD_tupI (e : List Int) : keyD (tupI e) = some (keyL e) := keysD_int e
theorem dctGet_tab {S : Sto} {id : Nat} {f : α → D} {T : Tab α} {e : List Int} (h : S[id]? = some (.dct (tabD f T))) : dctGet S (.ref id) (tupI e) = some ((lookA T e).map f) := by
  unfold dctGet
  rw [show dctOfR S (.ref id) = some (tabD f T) by unfold dctOfR; dsimp only; rw [h], Option.bind_some, keyD_tupI]
  show some (valD (tabD f T) (keyL e)) = _
  rw [valD_tab]
end
/-! ### polynomials -/
abbrev Pol := Tab Rat
def co (p : Pol) (e : List Int) : Rat := (lookA p e).getD 0
def EOk (n : Nat) (e : List Int) : Prop := e.length = n ∧ TS.Bd 1048576 e
def KOk (n : Nat) (l : List (List Int)) : Prop := ∀ e ∈ l, EOk n e
structure WF (n : Nat) (p : Pol) : Prop where
  srt : (keysA p).Pairwise (fun a b => lexLt a b = true)
  ok : KOk n (keysA p)
  nz : ∀ t ∈ p, t.2 ≠ 0
theorem EOk.lt_irrefl {n : Nat} {e : List Int} (h : EOk n e) : lexLt e e = false := by
  cases c : lexLt e e with
  | false => rfl
  | true => exact absurd ((lex_code rfl h.2 h.2).mp c) (Int.lt_irrefl _)
theorem EOk.trans {n : Nat} {a b c : List Int} (ha : EOk n a) (hb : EOk n b) (hc : EOk n c) (h1 : lexLt a b = true) (h2 : lexLt b c = true) : lexLt a c = true := by
  have e1 := (lex_code (ha.1.trans hb.1.symm) ha.2 hb.2).mp h1
  have e2 := (lex_code (hb.1.trans hc.1.symm) hb.2 hc.2).mp h2
  exact (lex_code (ha.1.trans hc.1.symm) ha.2 hc.2).mpr (by omega)
theorem EOk.tri {n : Nat} {a b : List Int} (ha : EOk n a) (hb : EOk n b) (h1 : lexLt a b = false) (h2 : lexLt b a = false) : a = b := by
  have e1 : ¬ TS.code 1048576 a < TS.code 1048576 b := fun z => by rw [(lex_code (ha.1.trans hb.1.symm) ha.2 hb.2).mpr z] at h1; cases h1
  have e2 : ¬ TS.code 1048576 b < TS.code 1048576 a := fun z => by rw [(lex_code (hb.1.trans ha.1.symm) hb.2 ha.2).mpr z] at h2; cases h2
  exact code_inj (ha.1.trans hb.1.symm) ha.2 hb.2 (by omega)
theorem WF.nodup {n : Nat} {p : Pol} (h : WF n p) : (keysA p).Nodup := by
  refine List.Pairwise.imp_of_mem (fun {a b} ha hb hl e => ?_) h.srt
  subst e
  rw [(h.ok a ha).lt_irrefl] at hl
  cases hl
theorem srt_ext {n : Nat} : ∀ {l m : List (List Int)}, KOk n l → KOk n m → l.Pairwise (fun a b => lexLt a b = true) → m.Pairwise (fun a b => lexLt a b = true) → (∀ e, e ∈ l ↔ e ∈ m) → l = m
  | [], [], _, _, _, _, _ => rfl
  | [], y :: m, _, _, _, _, h => by have := (h y).mpr List.mem_cons_self; cases this
  | x :: l, [], _, _, _, _, h => by have := (h x).mp List.mem_cons_self; cases this
  | x :: l, y :: m, hl, hm, sl, sm, h => by
    rw [List.pairwise_cons] at sl sm
    have ox := hl x List.mem_cons_self
    have oy := hm y List.mem_cons_self
    have e : x = y := by
      rcases List.mem_cons.mp ((h x).mp List.mem_cons_self) with e | hx
      · exact e
      · rcases List.mem_cons.mp ((h y).mpr List.mem_cons_self) with e | hy
        · exact e.symm
        · have a := sm.1 x hx
          have b := sl.1 y hy
          have := ox.trans oy ox b a
          rw [ox.lt_irrefl] at this
          cases this
    subst e
    refine congrArg (x :: ·) (srt_ext (fun e he => hl e (List.mem_cons_of_mem _ he)) (fun e he => hm e (List.mem_cons_of_mem _ he)) sl.2 sm.2 fun e => ⟨fun he => ?_, fun he => ?_⟩)
    · rcases List.mem_cons.mp ((h e).mp (List.mem_cons_of_mem _ he)) with z | z
      · subst z
        have := sl.1 e he
        rw [ox.lt_irrefl] at this; cases this
      · exact z
    · rcases List.mem_cons.mp ((h e).mpr (List.mem_cons_of_mem _ he)) with z | z
      · subst z
        have := sm.1 e he
        rw [ox.lt_irrefl] at this; cases this
      · exact z
theorem lookA_mem {α : Type} {T : Tab α} {e : List Int} {x : α} (h : lookA T e = some x) : (e, x) ∈ T := by
  induction T with
  | nil => cases h
  | cons t T ih =>
    rw [lookA_cons] at h
    by_cases c : t.1 = e
    · rw [if_pos c] at h
      cases h
      subst c
      exact List.mem_cons_self
    · rw [if_neg c] at h
      exact List.mem_cons_of_mem _ (ih h)
theorem lookA_of {α : Type} {T : Tab α} (hn : (keysA T).Nodup) {e : List Int} {x : α} (h : (e, x) ∈ T) : lookA T e = some x := by
  induction T with
  | nil => cases h
  | cons t T ih =>
    unfold keysA at hn
    rw [List.map_cons, List.nodup_cons] at hn
    rw [lookA_cons]
    rcases List.mem_cons.mp h with z | z
    · subst z; simp
    · have : ¬ t.1 = e := fun c => hn.1 (by rw [c]; exact List.mem_map.mpr ⟨_, z, rfl⟩)
      rw [if_neg this]
      exact ih hn.2 z
theorem WF.mem_iff {n : Nat} {p : Pol} (h : WF n p) {e : List Int} : e ∈ keysA p ↔ co p e ≠ 0 := by
  unfold co
  constructor
  · intro he
    obtain ⟨t, ht, rfl⟩ := List.mem_map.mp he
    rw [lookA_of h.nodup (show (t.1, t.2) ∈ p from ht)]
    exact h.nz t ht
  · intro hc
    cases h2 : lookA p e with
    | none => rw [h2] at hc; exact absurd rfl hc
    | some x => exact List.mem_map.mpr ⟨_, lookA_mem h2, rfl⟩
theorem tab_ext {α : Type} : ∀ {T U : Tab α}, (keysA T).Nodup → keysA T = keysA U → (∀ e, lookA T e = lookA U e) → T = U
  | [], [], _, _, _ => rfl
  | [], _ :: _, _, h, _ => by cases h
  | _ :: _, [], _, h, _ => by cases h
  | t :: T, u :: U, hn, hk, h => by
    unfold keysA at hk hn
    rw [List.map_cons, List.map_cons, List.cons.injEq] at hk
    rw [List.map_cons, List.nodup_cons] at hn
    have e1 := h t.1
    rw [lookA_cons, lookA_cons, if_pos rfl, if_pos hk.1.symm] at e1
    have e2 : t = u := Prod.ext hk.1 (Option.some.inj e1)
    subst e2
    refine congrArg (t :: ·) (tab_ext hn.2 hk.2 fun e => ?_)
    by_cases c : t.1 = e
    · subst c
      have a : lookA T t.1 = none := lookA_none.mpr hn.1
      have b : lookA U t.1 = none := lookA_none.mpr (by unfold keysA; rw [← hk.2]; exact hn.1)
      rw [a, b]
    · have := h e
      rw [lookA_cons, lookA_cons, if_neg c, if_neg c] at this
      exact this
theorem WF.ext {n : Nat} {p q : Pol} (hp : WF n p) (hq : WF n q) (h : ∀ e, co p e = co q e) : p = q := by
  have hk : keysA p = keysA q := srt_ext hp.ok hq.ok hp.srt hq.srt fun e => by rw [hp.mem_iff, hq.mem_iff, h]
  refine tab_ext hp.nodup hk fun e => ?_
  cases h1 : lookA p e with
  | none =>
    have : e ∉ keysA q := by rw [← hk]; exact lookA_none.mp h1
    rw [lookA_none.mpr this]
  | some x =>
    cases h2 : lookA q e with
    | none =>
      have : e ∉ keysA p := by rw [hk]; exact lookA_none.mp h2
      rw [lookA_none.mpr this] at h1
      cases h1
    | some y =>
      have := h e
      unfold co at this
      rw [h1, h2] at this
      rw [show x = y from this]
/-- the polynomial of a table -/
def tidy (T : Pol) : Pol := (sortL (keysA T)).filterMap fun e => if co T e = 0 then none else some (e, co T e)
theorem sort_strict {n : Nat} {l : List (List Int)} (hk : KOk n l) (hn : l.Nodup) : (sortL l).Pairwise (fun a b => lexLt a b = true) := by
  have h1 : (sortL l).Pairwise (fun a b => TS.code 1048576 a ≤ TS.code 1048576 b) := sort_sorted (d := n) hk
  have h2 : (sortL l).Nodup := (perm_sort l).nodup_iff.mpr hn
  have h3 := h1.and h2
  refine List.Pairwise.imp_of_mem (fun {a b} ha hb h => ?_) h3
  have oa := hk a ((perm_sort l).mem_iff.mp ha)
  have ob := hk b ((perm_sort l).mem_iff.mp hb)
  rw [lex_code (oa.1.trans ob.1.symm) oa.2 ob.2]
  have : TS.code 1048576 a ≠ TS.code 1048576 b := fun z => h.2 (code_inj (oa.1.trans ob.1.symm) oa.2 ob.2 z)
  have := h.1
  omega
theorem keys_filterMap {l : List (List Int)} {f : List Int → Rat} : keysA (l.filterMap fun e => if f e = 0 then none else some (e, f e)) = l.filter fun e => decide (f e ≠ 0) := by
  induction l with
  | nil => rfl
  | cons x l ih =>
    rw [List.filterMap_cons, List.filter_cons]
    by_cases c : f x = 0
    · simp only [c, if_true, ne_eq, not_true, decide_false]
      exact ih
    · simp only [c, if_false, ne_eq, not_false_eq_true, decide_true, if_true]
      unfold keysA at *
      rw [List.map_cons, ih]
theorem tidy_wf {n : Nat} {T : Pol} (hk : KOk n (keysA T)) (hn : (keysA T).Nodup) : WF n (tidy T) where
  srt := by
    unfold tidy
    rw [keys_filterMap]
    exact (sort_strict hk hn).filter _
  ok := fun e he => by
    unfold tidy at he
    rw [keys_filterMap, List.mem_filter] at he
    exact hk e ((perm_sort _).mem_iff.mp he.1)
  nz := fun t ht => by
    unfold tidy at ht
    obtain ⟨e, _, h⟩ := List.mem_filterMap.mp ht
    by_cases c : co T e = 0
    · rw [if_pos c] at h; cases h
    · rw [if_neg c] at h; cases h; exact c
theorem tidy_co {n : Nat} {T : Pol} (hk : KOk n (keysA T)) (hn : (keysA T).Nodup) (e : List Int) : co (tidy T) e = co T e := by
  by_cases c : co T e = 0
  · rw [c]
    have : e ∉ keysA (tidy T) := fun he => by
      unfold tidy at he
      rw [keys_filterMap, List.mem_filter] at he
      exact (of_decide_eq_true he.2) c
    unfold co
    rw [lookA_none.mpr this]; rfl
  · have he : e ∈ keysA T := by
      unfold co at c
      cases h2 : lookA T e with
      | none => rw [h2] at c; exact absurd rfl c
      | some x => exact List.mem_map.mpr ⟨_, lookA_mem h2, rfl⟩
    have hm : (e, co T e) ∈ tidy T := by
      unfold tidy
      exact List.mem_filterMap.mpr ⟨e, (perm_sort _).mem_iff.mpr he, by rw [if_neg c]⟩
    have := lookA_of (tidy_wf hk hn).nodup hm
    show (lookA (tidy T) e).getD 0 = co T e
    rw [this]; rfl
def termD (t : List Int × Rat) : D := .tup [tupI t.1, nq t.2]
def polD (p : Pol) : D := .tup (p.map termD)
end Rf
namespace Rf
open PySem PySem.Spec PyProof.Rows L2
/-! ### pairs that stand for fractions, bounded -/
def valP (x : Int × Int) : Rat := Rat.divInt x.1 x.2
def prD (x : Int × Int) : D := .tup [.int x.1, .int x.2]
structure BP (L M : Nat) (x : Int × Int) : Prop where
  pos : 0 < x.2
  dvd : x.2 ∣ (L : Int)
  bd : x.1.natAbs ≤ M * x.2.natAbs
def qp (q : Rat) : Int × Int := (q.num, (q.den : Int))
abbrev BQ (L M : Nat) (q : Rat) : Prop := BP L M (qp q)
theorem nq_pr (q : Rat) : nq q = prD (qp q) := rfl
theorem val_qp (q : Rat) : valP (qp q) = q := Rat.num_divInt_den q
theorem BP.mono {L M M' : Nat} {x : Int × Int} (h : BP L M x) (k : M ≤ M') : BP L M' x := ⟨h.pos, h.dvd, Nat.le_trans h.bd (Nat.mul_le_mul_right _ k)⟩
theorem BP.monoL {L L' M : Nat} {x : Int × Int} (h : BP L M x) (k : L ∣ L') : BP L' M x := ⟨h.pos, Int.dvd_trans h.dvd (Int.ofNat_dvd.mpr k), h.bd⟩
theorem BP.le {L M : Nat} {x : Int × Int} (h : BP L M x) (hL : 0 < L) : x.2.natAbs ≤ L := by
  have h1 : x.2.natAbs ∣ L := by
    have := Int.natAbs_dvd_natAbs.mpr h.dvd
    simpa using this
  exact Nat.le_of_dvd hL h1
theorem BP.num {L M : Nat} {x : Int × Int} (h : BP L M x) (hL : 0 < L) : x.1.natAbs ≤ M * L := Nat.le_trans h.bd (Nat.mul_le_mul_left _ (h.le hL))
theorem val_num {a b : Int} (hb : 0 < b) : (Rat.divInt a b).num * b = a * ((Rat.divInt a b).den : Int) := by
  have h1 := Rat.num_divInt_den (Rat.divInt a b)
  have h2 : ((Rat.divInt a b).den : Int) ≠ 0 := den_ne _
  exact (Rat.divInt_eq_divInt_iff h2 (by omega)).mp h1
/-- brought to lowest terms -/
theorem BP.norm {L M : Nat} {x : Int × Int} (h : BP L M x) : BQ L M (valP x) := by
  obtain ⟨a, b⟩ := x
  obtain ⟨hb, hd, hm⟩ := h
  dsimp only at hb hd hm
  have e := val_num (a := a) hb
  have cop := (Rat.divInt a b).reduced
  unfold valP
  dsimp only
  generalize Rat.divInt a b = q at e cop
  have dd : q.den ∣ b.natAbs := by
    have h1 : q.den ∣ q.num.natAbs * b.natAbs := by
      rw [← Int.natAbs_mul, e, Int.natAbs_mul]
      exact Nat.dvd_mul_left _ _
    exact Nat.Coprime.dvd_of_dvd_mul_left cop.symm h1
  have hp := q.den_pos
  refine ⟨by show (0 : Int) < (q.den : Int); omega, ?_, ?_⟩
  · show (q.den : Int) ∣ (L : Int)
    refine Int.dvd_trans ?_ hd
    have := Int.ofNat_dvd.mpr dd
    rwa [Int.natAbs_of_nonneg (by omega)] at this
  · show q.num.natAbs ≤ M * (q.den : Int).natAbs
    have e2 : q.num.natAbs * b.natAbs = a.natAbs * q.den := by
      have := congrArg Int.natAbs e
      rwa [Int.natAbs_mul, Int.natAbs_mul] at this
    have hb' : 0 < b.natAbs := by omega
    refine Nat.le_of_mul_le_mul_right (c := b.natAbs) ?_ hb'
    rw [e2, show (q.den : Int).natAbs = q.den from rfl]
    calc a.natAbs * q.den ≤ (M * b.natAbs) * q.den := Nat.mul_le_mul_right _ hm
      _ = M * q.den * b.natAbs := by rw [Nat.mul_assoc, Nat.mul_comm b.natAbs, ← Nat.mul_assoc]
theorem BP.mul {L M L' M' : Nat} {x y : Int × Int} (h : BP L M x) (k : BP L' M' y) : BP (L * L') (M * M') (x.1 * y.1, x.2 * y.2) := by
  refine ⟨Int.mul_pos h.pos k.pos, ?_, ?_⟩
  · rw [Int.natCast_mul]
    exact Int.mul_dvd_mul h.dvd k.dvd
  · show (x.1 * y.1).natAbs ≤ M * M' * (x.2 * y.2).natAbs
    rw [Int.natAbs_mul, Int.natAbs_mul]
    calc x.1.natAbs * y.1.natAbs ≤ (M * x.2.natAbs) * (M' * y.2.natAbs) := Nat.mul_le_mul h.bd k.bd
      _ = M * M' * (x.2.natAbs * y.2.natAbs) := by rw [Nat.mul_mul_mul_comm]
theorem val_mul {x y : Int × Int} (hx : x.2 ≠ 0) (hy : y.2 ≠ 0) : valP (x.1 * y.1, x.2 * y.2) = valP x * valP y := by
  unfold valP
  rw [Rat.divInt_mul_divInt]
def lcmI (b d : Int) : Int := ((Nat.lcm b.natAbs d.natAbs : Nat) : Int)
def lsum (x y : Int × Int) : Int × Int := if x.2 = y.2 then (x.1 + y.1, x.2) else (x.1 * (lcmI x.2 y.2).fdiv x.2 + y.1 * (lcmI x.2 y.2).fdiv y.2, lcmI x.2 y.2)
theorem lcm_facts {L M M' : Nat} {x y : Int × Int} (h : BP L M x) (k : BP L M' y) : 0 < lcmI x.2 y.2 ∧ lcmI x.2 y.2 ∣ (L : Int) ∧ (∃ u : Int, lcmI x.2 y.2 = x.2 * u ∧ (lcmI x.2 y.2).fdiv x.2 = u ∧ 0 < u) ∧ ∃ v : Int, lcmI x.2 y.2 = y.2 * v ∧ (lcmI x.2 y.2).fdiv y.2 = v ∧ 0 < v := by
  have hx := h.pos
  have hy := k.pos
  have p : 0 < lcmI x.2 y.2 := by
    have := Nat.lcm_pos (m := x.2.natAbs) (n := y.2.natAbs) (by omega) (by omega)
    unfold lcmI; omega
  have d1 : x.2 ∣ lcmI x.2 y.2 := by
    have := Int.ofNat_dvd.mpr (Nat.dvd_lcm_left x.2.natAbs y.2.natAbs)
    rwa [Int.natAbs_of_nonneg (by omega)] at this
  have d2 : y.2 ∣ lcmI x.2 y.2 := by
    have := Int.ofNat_dvd.mpr (Nat.dvd_lcm_right x.2.natAbs y.2.natAbs)
    rwa [Int.natAbs_of_nonneg (by omega : 0 ≤ y.2)] at this
  have dl : lcmI x.2 y.2 ∣ (L : Int) := by
    have a1 : x.2.natAbs ∣ L := by have := Int.natAbs_dvd_natAbs.mpr h.dvd; simpa using this
    have a2 : y.2.natAbs ∣ L := by have := Int.natAbs_dvd_natAbs.mpr k.dvd; simpa using this
    exact Int.ofNat_dvd.mpr (Nat.lcm_dvd a1 a2)
  have fact : ∀ {b l : Int}, 0 < b → 0 < l → b ∣ l → ∃ u : Int, l = b * u ∧ l.fdiv b = u ∧ 0 < u := fun {b l} hb hl ⟨u, hu⟩ => by
    refine ⟨u, hu, ?_, ?_⟩
    · rw [hu, Int.mul_fdiv_cancel_left u (by omega)]
    · exact Int.pos_of_mul_pos_right (hu ▸ hl) hb |> fun z => z
  exact ⟨p, dl, fact hx p d1, fact hy p d2⟩
theorem lsum_bp {L M M' : Nat} {x y : Int × Int} (h : BP L M x) (k : BP L M' y) : BP L (M + M') (lsum x y) := by
  unfold lsum
  split
  · rename_i c
    refine ⟨h.pos, h.dvd, ?_⟩
    have h1 := h.bd
    have h2 := k.bd
    rw [← c] at h2
    show (x.1 + y.1).natAbs ≤ (M + M') * x.2.natAbs
    rw [Nat.add_mul]
    omega
  · obtain ⟨p, dl, ⟨u, e1, e2, u0⟩, v, e3, e4, v0⟩ := lcm_facts h k
    refine ⟨p, dl, ?_⟩
    show (x.1 * (lcmI x.2 y.2).fdiv x.2 + y.1 * (lcmI x.2 y.2).fdiv y.2).natAbs ≤ (M + M') * (lcmI x.2 y.2).natAbs
    rw [e2, e4, Nat.add_mul]
    have a1 : (x.1 * u).natAbs ≤ M * (lcmI x.2 y.2).natAbs := by
      rw [e1, Int.natAbs_mul, Int.natAbs_mul, ← Nat.mul_assoc]
      exact Nat.mul_le_mul_right _ h.bd
    have a2 : (y.1 * v).natAbs ≤ M' * (lcmI x.2 y.2).natAbs := by
      rw [e3, Int.natAbs_mul, Int.natAbs_mul, ← Nat.mul_assoc]
      exact Nat.mul_le_mul_right _ k.bd
    omega
theorem lsum_val {L M M' : Nat} {x y : Int × Int} (h : BP L M x) (k : BP L M' y) : valP (lsum x y) = valP x + valP y := by
  have hx := h.pos
  have hy := k.pos
  unfold lsum
  split
  · rename_i c
    unfold valP
    dsimp only
    rw [← c, Rat.divInt_add_divInt _ _ (by omega) (by omega)]
    rw [← Int.add_mul, Rat.divInt_mul_right (by omega)]
  · obtain ⟨p, dl, ⟨u, e1, e2, u0⟩, v, e3, e4, v0⟩ := lcm_facts h k
    unfold valP
    dsimp only
    rw [e2, e4]
    have a1 : Rat.divInt x.1 x.2 = Rat.divInt (x.1 * u) (lcmI x.2 y.2) := by rw [e1, Rat.divInt_mul_right (by omega)]
    have a2 : Rat.divInt y.1 y.2 = Rat.divInt (y.1 * v) (lcmI x.2 y.2) := by rw [e3, Rat.divInt_mul_right (by omega)]
    rw [a1, a2]
    generalize lcmI x.2 y.2 = l at p
    rw [Rat.divInt_add_divInt _ _ (by omega) (by omega), ← Int.add_mul, Rat.divInt_mul_right (by omega)]
theorem bq_add {L M M' : Nat} {x y : Rat} (h : BQ L M x) (k : BQ L M' y) : BQ L (M + M') (x + y) := by
  have := (lsum_bp h k).norm
  rw [lsum_val h k, val_qp, val_qp] at this
  exact this
theorem bq_mul {L M L' M' : Nat} {x y : Rat} (h : BQ L M x) (k : BQ L' M' y) : BQ (L * L') (M * M') (x * y) := by
  have := (h.mul k).norm
  rw [val_mul (by have := h.pos; omega) (by have := k.pos; omega), val_qp, val_qp] at this
  exact this
theorem bq_zero {L M : Nat} : BQ L M 0 := ⟨by show (0 : Int) < ((0 : Rat).den : Int); decide, by show ((1 : Nat) : Int) ∣ (L : Int); exact Int.one_dvd _, by show (0 : Int).natAbs ≤ _; simp⟩
theorem bq_neg {L M : Nat} {x : Rat} (h : BQ L M x) : BQ L M (-x) := by
  refine ⟨?_, ?_, ?_⟩
  · exact h.pos
  · exact h.dvd
  · show (-x).num.natAbs ≤ M * (((-x).den : Nat) : Int).natAbs
    rw [Rat.neg_num, Int.natAbs_neg]
    exact h.bd
theorem bq_sz {L M n : Nat} {x : Rat} (h : BQ L M x) (hL : 0 < L) (h1 : L < 2 ^ n) (h2 : M * L < 2 ^ n) : sz n x :=
  ⟨Nat.lt_of_le_of_lt (h.num hL) h2, Nat.lt_of_le_of_lt (h.le hL) h1⟩
theorem val_zero_iff {x : Int × Int} (h : 0 < x.2) : valP x = 0 ↔ x.1 = 0 := by
  have e := val_num (a := x.1) h
  have d := den_ne (Rat.divInt x.1 x.2)
  unfold valP
  constructor
  · intro z
    rw [z] at e d
    have e' : (0 : Int) * x.2 = x.1 * ((0 : Rat).den : Int) := e
    rw [Int.zero_mul] at e'
    rcases Int.mul_eq_zero.mp e'.symm with h1 | h1
    · exact h1
    · exact absurd h1 d
  · intro z
    rw [z, Int.zero_mul] at e
    rcases Int.mul_eq_zero.mp e with h1 | h1
    · rw [z]
      exact Rat.num_eq_zero.mp h1
    · omega
theorem mulOk_s {i j : Int} (h : i.natAbs < 2 ^ 63) : mulOk i j = true := by
  unfold mulOk
  rw [decide_eq_true h]; rfl
theorem divOk_s {i j : Int} (h0 : j ≠ 0) (h : j.natAbs < 2 ^ 63) : divOk i j = true := by
  unfold divOk
  rw [decide_eq_true h0, decide_eq_true (Nat.lt_trans (PySem.Flt.log2_lt_of (by decide : 0 < 63) h) (by decide))]; rfl
theorem lcmOk_s {j : Int} (h : j.natAbs < 2 ^ 63) : lcmOk j = true := decide_eq_true (Nat.lt_trans (PySem.Flt.log2_lt_of (by decide : 0 < 63) h) (by decide))
/-! a large bound -/
@[irreducible] def BIG : Nat := 2 ^ 4000
theorem lt_big {x k : Nat} (h : x < 2 ^ k) (hk : k ≤ 4000 := by decide) : x < BIG := by
  unfold BIG
  exact Nat.lt_of_lt_of_le h (Nat.pow_le_pow_right (by decide) hk)
theorem log_big {x : Nat} (h : x < BIG) : x.log2 < 4000 := by
  unfold BIG at h
  exact PySem.Flt.log2_lt_of (by decide) h
theorem mulOk_b {i j : Int} (h : i.natAbs < BIG) (k : j.natAbs < BIG) : mulOk i j = true := by
  have h1 := log_big h
  have k1 := log_big k
  unfold mulOk
  rw [Bool.or_eq_true]
  exact .inr (decide_eq_true (by omega))
theorem divOk_b {i j : Int} (h0 : j ≠ 0) (h : j.natAbs < BIG) : divOk i j = true := by
  have h1 := log_big h
  unfold divOk
  rw [decide_eq_true h0, decide_eq_true (by omega)]; rfl
theorem lcmOk_b {j : Int} (h : j.natAbs < BIG) : lcmOk j = true := by
  have h1 := log_big h
  exact decide_eq_true (by omega)
theorem bq_pow {L M : Nat} {x : Rat} (h : BQ L M x) : ∀ e : Nat, BQ (L ^ e) (M ^ e) (x ^ e)
  | 0 => by rw [Rat.pow_zero]; exact ⟨by show (0 : Int) < ((1 : Rat).den : Int); decide, by show (((1 : Rat).den : Int)) ∣ ((1 : Nat) : Int); decide, by show (1 : Rat).num.natAbs ≤ 1 * (((1 : Rat).den : Nat) : Int).natAbs; decide⟩
  | e + 1 => by
    rw [Rat.pow_succ, Nat.pow_succ, Nat.pow_succ]
    exact bq_mul (bq_pow h e) h
theorem qp_pow (q : Rat) (e : Nat) : (q.num ^ e, (q.den : Int) ^ e) = qp (q ^ e) := by
  unfold qp
  rw [Rat.num_pow, Rat.den_pow, Int.natCast_pow]
end Rf
namespace Rf
open PySem PySem.Spec PyProof.Rows L2
/-! ### sums of terms -/
def sumAt (T : Pol) (e : List Int) : Rat := T.foldr (fun t s => (if t.1 = e then t.2 else 0) + s) 0
theorem sumAt_nil {e : List Int} : sumAt [] e = 0 := rfl
theorem sumAt_cons {t : List Int × Rat} {T : Pol} {e : List Int} : sumAt (t :: T) e = (if t.1 = e then t.2 else 0) + sumAt T e := rfl
theorem sumAt_append {T U : Pol} {e : List Int} : sumAt (T ++ U) e = sumAt T e + sumAt U e := by
  induction T with
  | nil => rw [List.nil_append, sumAt_nil, Rat.zero_add]
  | cons t T ih => rw [List.cons_append, sumAt_cons, sumAt_cons, ih, Rat.add_assoc]
theorem sumAt_snoc {T : Pol} {t : List Int × Rat} {e : List Int} : sumAt (T ++ [t]) e = sumAt T e + (if t.1 = e then t.2 else 0) := by
  rw [sumAt_append, sumAt_cons, sumAt_nil, Rat.add_zero]
theorem sumAt_not {T : Pol} {e : List Int} (h : e ∉ keysA T) : sumAt T e = 0 := by
  induction T with
  | nil => rfl
  | cons t T ih =>
    unfold keysA at *
    rw [List.map_cons, List.mem_cons, not_or] at h
    rw [sumAt_cons, if_neg (fun z => h.1 z.symm), ih h.2, Rat.add_zero]
theorem sumAt_co {T : Pol} (hn : (keysA T).Nodup) (e : List Int) : sumAt T e = co T e := by
  induction T with
  | nil => rfl
  | cons t T ih =>
    unfold keysA at hn
    rw [List.map_cons, List.nodup_cons] at hn
    unfold co
    rw [sumAt_cons, lookA_cons]
    by_cases c : t.1 = e
    · rw [if_pos c, if_pos c, sumAt_not (by unfold keysA; rw [← c]; exact hn.1), Rat.add_zero]; rfl
    · rw [if_neg c, if_neg c, ih hn.2, Rat.zero_add]; rfl
/-- one term more in a table of sums -/
def addR (T : Pol) (e : List Int) (x : Rat) : Pol := putA T e (co T e + x)
theorem co_put {T : Pol} {e e' : List Int} {x : Rat} : co (putA T e x) e' = if e' = e then x else co T e' := by
  unfold co
  rw [lookA_put]
  split <;> rfl
theorem co_addR {T : Pol} {e e' : List Int} {x : Rat} : co (addR T e x) e' = co T e' + (if e = e' then x else 0) := by
  unfold addR
  rw [co_put]
  by_cases c : e' = e
  · subst c; simp
  · have : ¬ e = e' := fun z => c z.symm
    rw [if_neg c, if_neg this, Rat.add_zero]
/-! ### what is in a table -/
def BT (L M : Nat) (T : Pol) : Prop := ∀ t ∈ T, BQ L M t.2
theorem BT.mono {L M M' : Nat} {T : Pol} (h : BT L M T) (k : M ≤ M') : BT L M' T := fun t ht => (h t ht).mono k
theorem BT.co {L M : Nat} {T : Pol} (h : BT L M T) (e : List Int) : BQ L M (co T e) := by
  unfold Rf.co
  cases h2 : lookA T e with
  | none => exact bq_zero
  | some x => exact h _ (lookA_mem h2)
theorem BT.put {L M : Nat} {T : Pol} (h : BT L M T) {e : List Int} {x : Rat} (hx : BQ L M x) : BT L M (putA T e x) := fun t ht => by
  unfold putA at ht
  split at ht
  · obtain ⟨u, hu, rfl⟩ := List.mem_map.mp ht
    split
    · exact hx
    · exact h u hu
  · rcases List.mem_append.mp ht with ht | ht
    · exact h t ht
    · rw [List.mem_singleton] at ht; subst ht; exact hx
/-- a table of sums after j terms -/
structure TS' (n L M j : Nat) (T : Pol) (I : Pol) : Prop where
  nodup : (keysA T).Nodup
  ok : KOk n (keysA T)
  len : T.length ≤ j
  bd : BT L (M * j) T
  co : ∀ e, co T e = sumAt I e
  sub : ∀ e ∈ keysA T, e ∈ keysA I
theorem TS'.nil {n L M : Nat} : TS' n L M 0 [] [] := ⟨List.nodup_nil, fun _ h => (by cases h), Nat.le_refl _, fun _ h => (by cases h), fun _ => rfl, fun _ h => (by cases h)⟩
theorem TS'.add {n L M j : Nat} {T I : Pol} (h : TS' n L M j T I) {e : List Int} {x : Rat} (he : EOk n e) (hx : BQ L M x) : TS' n L M (j + 1) (addR T e x) (I ++ [(e, x)]) where
  nodup := nodup_put h.nodup
  ok := fun a ha => by
    rcases mem_keys_put.mp ha with z | z
    · exact h.ok a z
    · subst z; exact he
  len := Nat.le_trans len_put (Nat.succ_le_succ h.len)
  bd := (h.bd.mono (Nat.mul_le_mul_left _ (Nat.le_succ _))).put (by
    rw [Nat.mul_succ]
    exact bq_add (h.bd.co e) hx)
  co := fun a => by rw [co_addR, h.co, sumAt_snoc]
  sub := fun a ha => by
    unfold keysA at *
    rw [List.map_append, List.mem_append]
    rcases mem_keys_put.mp ha with z | z
    · exact .inl (h.sub a z)
    · exact .inr (by rw [z]; exact List.mem_cons_self)
/-- a polynomial with bounded coefficients -/
structure PB (n L M : Nat) (p : Pol) : Prop where
  wf : WF n p
  bd : BT L M p
theorem tidy_bt {L M : Nat} {T : Pol} (h : BT L M T) : BT L M (tidy T) := fun t ht => by
  unfold tidy at ht
  obtain ⟨e, _, h2⟩ := List.mem_filterMap.mp ht
  by_cases c : Rf.co T e = 0
  · rw [if_pos c] at h2; cases h2
  · rw [if_neg c] at h2; cases h2; exact h.co e
theorem tidy_len {T : Pol} : (tidy T).length ≤ T.length := by
  unfold tidy
  refine Nat.le_trans (List.length_filterMap_le _ _) ?_
  rw [(perm_sort _).length_eq]
  unfold keysA
  rw [List.length_map]; exact Nat.le_refl _
theorem TS'.pb {n L M j : Nat} {T I : Pol} (h : TS' n L M j T I) : PB n L (M * j) (tidy T) ∧ (tidy T).length ≤ j ∧ ∀ e, Rf.co (tidy T) e = sumAt I e :=
  ⟨⟨tidy_wf h.ok h.nodup, tidy_bt h.bd⟩, Nat.le_trans tidy_len h.len, fun e => (tidy_co h.ok h.nodup e).trans (h.co e)⟩
/-! ### numbers that may be the module's own -/
abbrev NP := (Int × Int) × Bool
def ndD (x : NP) : D := if x.2 = true then .kt [.int x.1.1, .int x.1.2] else .tup [.int x.1.1, .int x.1.2]
def ofQ (q : Rat) : NP := (qp q, false)
theorem nd_ofQ (q : Rat) : ndD (ofQ q) = nq q := rfl
def termN (t : List Int × NP) : D := .tup [tupI t.1, ndD t.2]
def ratT (T : Tab NP) : Pol := T.map fun t => (t.1, valP t.2.1)
def ofP (p : Pol) : Tab NP := p.map fun t => (t.1, ofQ t.2)
theorem rat_of (p : Pol) : ratT (ofP p) = p := by
  unfold ratT ofP
  rw [List.map_map]
  have : ((fun t : List Int × NP => (t.1, valP t.2.1)) ∘ fun t : List Int × Rat => (t.1, ofQ t.2)) = id := by
    funext t
    show (t.1, valP (qp t.2)) = t
    rw [val_qp]
  rw [this, List.map_id]
theorem pol_of (p : Pol) : polD p = .tup ((ofP p).map termN) := by
  unfold polD ofP
  rw [List.map_map]
  rfl
def BN (L M : Nat) (T : Tab NP) : Prop := ∀ t ∈ T, BP L M t.2.1
theorem BN.mono {L M M' : Nat} {T : Tab NP} (h : BN L M T) (k : M ≤ M') : BN L M' T := fun t ht => (h t ht).mono k
theorem BT.of {L M : Nat} {p : Pol} (h : BT L M p) : BN L M (ofP p) := fun t ht => by
  obtain ⟨u, hu, rfl⟩ := List.mem_map.mp ht
  exact h u hu
theorem keys_rat (T : Tab NP) : keysA (ratT T) = keysA T := by
  unfold keysA ratT
  rw [List.map_map]; rfl
theorem keys_of (p : Pol) : keysA (ofP p) = keysA p := by
  unfold keysA ofP
  rw [List.map_map]; rfl
theorem co_rat (T : Tab NP) (e : List Int) : co (ratT T) e = ((lookA T e).map fun x => valP x.1).getD 0 := by
  unfold co ratT
  exact congrArg (fun o : Option Rat => o.getD 0) (lookA_map (f := fun x : NP => valP x.1))
/-- one pair more in the program's table -/
def addX (x : NP) : Option NP → NP
  | some y => (lsum y.1 x.1, false)
  | none => x
def addN (T : Tab NP) (e : List Int) (x : NP) : Tab NP := putA T e (addX x (lookA T e))
theorem BN.put {L M : Nat} {T : Tab NP} (h : BN L M T) {e : List Int} {x : NP} (hx : BP L M x.1) : BN L M (putA T e x) := fun t ht => by
  unfold putA at ht
  split at ht
  · obtain ⟨u, hu, rfl⟩ := List.mem_map.mp ht
    split
    · exact hx
    · exact h u hu
  · rcases List.mem_append.mp ht with ht | ht
    · exact h t ht
    · rw [List.mem_singleton] at ht; subst ht; exact hx
structure TN (n L M j : Nat) (T : Tab NP) (I : Pol) : Prop where
  nodup : (keysA T).Nodup
  ok : KOk n (keysA T)
  len : T.length ≤ j
  bd : BN L (M * j) T
  co : ∀ e, co (ratT T) e = sumAt I e
  sub : ∀ e ∈ keysA T, e ∈ keysA I
theorem TN.nil {n L M : Nat} : TN n L M 0 [] [] := ⟨List.nodup_nil, fun _ h => (by cases h), Nat.le_refl _, fun _ h => (by cases h), fun _ => rfl, fun _ h => (by cases h)⟩
theorem TN.add {n L M j : Nat} {T : Tab NP} {I : Pol} (h : TN n L M j T I) {e : List Int} {x : NP} (he : EOk n e) (hx : BP L M x.1) : TN n L M (j + 1) (addN T e x) (I ++ [(e, valP x.1)]) where
  nodup := nodup_put h.nodup
  ok := fun a ha => by
    rcases mem_keys_put.mp ha with z | z
    · exact h.ok a z
    · subst z; exact he
  len := Nat.le_trans len_put (Nat.succ_le_succ h.len)
  bd := by
    refine (h.bd.mono (Nat.mul_le_mul_left _ (Nat.le_succ _))).put ?_
    rw [Nat.mul_succ]
    cases h2 : lookA T e with
    | none => exact hx.mono (Nat.le_add_left _ _)
    | some y => exact lsum_bp (h.bd _ (lookA_mem h2)) hx
  co := fun a => by
    rw [sumAt_snoc, ← h.co, co_rat, co_rat]
    unfold addN
    rw [lookA_put]
    by_cases c : a = e
    · subst c
      rw [if_pos rfl, if_pos rfl]
      cases h2 : lookA T a with
      | none => show valP x.1 = 0 + valP x.1; rw [Rat.zero_add]
      | some y =>
        show valP (lsum y.1 x.1) = valP y.1 + valP x.1
        exact lsum_val (h.bd _ (lookA_mem h2)) hx
    · have : ¬ e = a := fun z => c z.symm
      rw [if_neg c, if_neg this, Rat.add_zero]
  sub := fun a ha => by
    unfold keysA at *
    rw [List.map_append, List.mem_append]
    rcases mem_keys_put.mp ha with z | z
    · exact .inl (h.sub a z)
    · exact .inr (by rw [z]; exact List.mem_cons_self)
theorem BN.rat {L M : Nat} {T : Tab NP} (h : BN L M T) : BT L M (ratT T) := fun t ht => by
  obtain ⟨u, hu, rfl⟩ := List.mem_map.mp ht
  exact (h u hu).norm
theorem TN.pb {n L M j : Nat} {T : Tab NP} {I : Pol} (h : TN n L M j T I) : PB n L (M * j) (tidy (ratT T)) ∧ (tidy (ratT T)).length ≤ j ∧ ∀ e, Rf.co (tidy (ratT T)) e = sumAt I e := by
  have h1 : KOk n (keysA (ratT T)) := by rw [keys_rat]; exact h.ok
  have h2 : (keysA (ratT T)).Nodup := by rw [keys_rat]; exact h.nodup
  refine ⟨⟨tidy_wf h1 h2, tidy_bt h.bd.rat⟩, Nat.le_trans tidy_len ?_, fun e => (tidy_co h1 h2 e).trans (h.co e)⟩
  unfold ratT
  rw [List.length_map]; exact h.len
theorem sortOk_of {n : Nat} {l : List (List Int)} (h : KOk n l) (hn : 1 ≤ n) (hl : l.length < 100000) : sortOk l = true := by
  unfold sortOk
  cases l with
  | nil => rfl
  | cons x l =>
    have hx := h x List.mem_cons_self
    rw [Bool.and_eq_true, Bool.and_eq_true, List.all_eq_true]
    refine ⟨⟨decide_eq_true hl, fun a ha => ?_⟩, decide_eq_true ?_⟩
    · have := h a ha
      rw [Bool.and_eq_true]
      exact ⟨decide_eq_true (by show a.length = x.length; rw [this.1, hx.1]), bdI_iff.mpr this.2⟩
    · show 1 ≤ x.length
      rw [hx.1]; exact hn
/-- what stands at an index of the sorted keys -/
theorem filterMap_take {α β : Type} (f : α → Option β) (l : List α) (k : Nat) (x : α) (h : l[k]? = some x) : (l.take (k + 1)).filterMap f = (l.take k).filterMap f ++ (f x).toList := by
  rw [List.take_add_one, h, List.filterMap_append]
  cases h2 : f x <;> simp [h2]
end Rf
namespace Rf
open PySem PySem.Spec PyProof.Rows L2
theorem pigeon {α : Type} [DecidableEq α] : ∀ (l D : List α), l.Nodup → (∀ x ∈ l, x ∈ D) → l.length ≤ D.length
  | [], _, _, _ => Nat.zero_le _
  | x :: l, D, hn, hs => by
    obtain ⟨h1, h2⟩ := List.nodup_cons.mp hn
    have hx : x ∈ D := hs x List.mem_cons_self
    have ih := pigeon l (D.erase x) h2 fun y hy => by
      have hne : y ≠ x := fun e => h1 (e ▸ hy)
      exact (List.mem_erase_of_ne hne).2 (hs y (List.mem_cons_of_mem _ hy))
    rw [List.length_erase_of_mem hx] at ih
    have : 0 < D.length := List.length_pos_iff.mpr fun z => by rw [z] at hx; cases hx
    rw [List.length_cons]; omega
/-- fewer than m different keys -/
def Few (m : Nat) (l : List (List Int)) : Prop := ∀ k : List (List Int), k.Nodup → (∀ e ∈ k, e ∈ l) → k.length < m
theorem few_len {m : Nat} {l : List (List Int)} (h : l.length < m) : Few m l := fun k hn hs => Nat.lt_of_le_of_lt (pigeon k l hn hs) h
theorem few_sub {m : Nat} {l l' : List (List Int)} (h : Few m l') (hs : ∀ e ∈ l, e ∈ l') : Few m l := fun k hn hk => h k hn fun e he => hs e (hk e he)
theorem tidy_keys {T : Pol} : ∀ e ∈ keysA (tidy T), e ∈ keysA T := fun e he => by
  unfold tidy at he
  rw [keys_filterMap, List.mem_filter] at he
  exact (perm_sort _).mem_iff.mp he.1
/-- all but the object id stands -/
def KeepB (id : Nat) (S S' : Sto) : Prop := ∀ (i : Nat) (o : O), i ≠ id → S[i]? = some o → S'[i]? = some o
theorem keepB_set {S : Sto} {id : Nat} {o : O} : KeepB id S (S.set id o) := fun i u h e => by rw [List.getElem?_set_ne (Ne.symm h)]; exact e
theorem KeepB.trans {id : Nat} {S S1 S2 : Sto} (a : KeepB id S S1) (b : KeepB id S1 S2) : KeepB id S S2 := fun i o h e => b i o h (a i o h e)
theorem Keep.b {id : Nat} {S S' : Sto} (k : Keep S S') : KeepB id S S' := fun i o _ e => k i o e
theorem Keep.thenB {id : Nat} {S S1 S2 : Sto} (a : Keep S S1) (h : S.length ≤ id) (b : KeepB id S1 S2) : Keep S S2 := fun i o e => b i o (by have := lt_of_get e; omega) (a i o e)
theorem ratT_take (I : Tab NP) (j : Nat) : ratT (I.take j) = (ratT I).take j := by unfold ratT; rw [List.map_take]
theorem ratT_snoc (I : Tab NP) (t : List Int × NP) : ratT (I ++ [t]) = ratT I ++ [(t.1, valP t.2.1)] := by unfold ratT; rw [List.map_append]; rfl
theorem take_snoc {α : Type} {l : List α} {j : Nat} {x : α} (h : l[j]? = some x) : l.take (j + 1) = l.take j ++ [x] := by rw [List.take_add_one, h]; rfl
theorem TN.few {n L M j m : Nat} {T : Tab NP} {I J : Pol} (h : TN n L M j T I) (hf : Few m (keysA J)) (hs : ∀ e ∈ keysA I, e ∈ keysA J) : T.length < m := by
  have := hf (keysA T) h.nodup fun e he => hs e (h.sub e he)
  unfold keysA at this
  rwa [List.length_map] at this
theorem TS'.few {n L M j m : Nat} {T : Pol} {I J : Pol} (h : TS' n L M j T I) (hf : Few m (keysA J)) (hs : ∀ e ∈ keysA I, e ∈ keysA J) : T.length < m := by
  have := hf (keysA T) h.nodup fun e he => hs e (h.sub e he)
  unfold keysA at this
  rwa [List.length_map] at this
theorem keys_take {α : Type} (I : Tab α) (j : Nat) : ∀ e ∈ keysA (I.take j), e ∈ keysA I := fun e he => by
  unfold keysA at *
  obtain ⟨t, ht, rfl⟩ := List.mem_map.mp he
  exact List.mem_map.mpr ⟨t, List.mem_of_mem_take ht, rfl⟩
/-! ### products -/
def addE (a b : List Int) : List Int := List.zipWith (· + ·) a b
def prodR (p q : Pol) : Pol := p.flatMap fun t => q.map fun u => (addE t.1 u.1, t.2 * u.2)
theorem prodR_snoc (p q : Pol) (t : List Int × Rat) : prodR (p ++ [t]) q = prodR p q ++ q.map fun u => (addE t.1 u.1, t.2 * u.2) := by
  unfold prodR
  rw [List.flatMap_append]; simp
theorem prodR_len (p q : Pol) : (prodR p q).length = p.length * q.length := by
  unfold prodR
  rw [List.length_flatMap]
  simp only [List.length_map]
  induction p with
  | nil => simp
  | cons t p ih => simp only [List.map_cons, List.sum_cons, List.length_cons] at *; rw [ih, Nat.succ_mul, Nat.add_comm]
theorem prodR_keys {p q : Pol} {e : List Int} (h : e ∈ keysA (prodR p q)) : ∃ a ∈ keysA p, ∃ b ∈ keysA q, e = addE a b := by
  unfold keysA prodR at h
  obtain ⟨t, ht, rfl⟩ := List.mem_map.mp h
  obtain ⟨u, hu, ht⟩ := List.mem_flatMap.mp ht
  obtain ⟨v, hv, rfl⟩ := List.mem_map.mp ht
  exact ⟨u.1, List.mem_map.mpr ⟨u, hu, rfl⟩, v.1, List.mem_map.mpr ⟨v, hv, rfl⟩, rfl⟩
theorem addE_comm (a b : List Int) : addE a b = addE b a := by
  unfold addE
  rw [List.zipWith_comm]
  congr 1
  funext x y
  exact Int.add_comm y x
def EB (n : Nat) (B : Int) (e : List Int) : Prop := e.length = n ∧ TS.Bd B e
theorem addE_eb {n : Nat} {B B' : Int} {a b : List Int} (ha : EB n B a) (hb : EB n B' b) : EB n (B + B') (addE a b) := by
  refine ⟨by unfold addE; rw [List.length_zipWith, ha.1, hb.1, Nat.min_self], fun m hm => ?_⟩
  unfold addE at hm
  obtain ⟨i, hi⟩ := List.mem_iff_getElem?.mp hm
  rw [List.getElem?_zipWith] at hi
  cases h1 : a[i]? with
  | none => rw [h1] at hi; cases hi
  | some x =>
    cases h2 : b[i]? with
    | none => rw [h1, h2] at hi; cases hi
    | some y =>
      rw [h1, h2] at hi
      cases hi
      have k1 := ha.2 x (List.mem_of_getElem? h1)
      have k2 := hb.2 y (List.mem_of_getElem? h2)
      constructor <;> omega
def PK (n : Nat) (B : Int) (p : Pol) : Prop := ∀ e ∈ keysA p, EB n B e
theorem PK.prod {n : Nat} {B B' : Int} {p q : Pol} (hp : PK n B p) (hq : PK n B' q) : PK n (B + B') (prodR p q) := fun e he => by
  obtain ⟨a, ha, b, hb, rfl⟩ := prodR_keys he
  exact addE_eb (hp a ha) (hq b hb)
theorem PK.kok {n : Nat} {B : Int} {p : Pol} (h : PK n B p) (hB : B ≤ 1048576) : KOk n (keysA p) := fun e he => ⟨(h e he).1, fun m hm => by
  have := (h e he).2 m hm
  exact ⟨this.1, by omega⟩⟩
theorem zero_addE {n : Nat} {e : List Int} (h : e.length = n) : addE (List.replicate n 0) e = e := by
  subst h
  unfold addE
  induction e with
  | nil => rfl
  | cons x e ih => rw [List.length_cons, List.replicate_succ, List.zipWith_cons_cons, ih, Int.zero_add]
/-- the polynomial 1 -/
def oneP (n : Nat) : Pol := [(List.replicate n 0, 1)]
theorem prod_one {n : Nat} {p : Pol} (hp : PK n 1048576 p) : prodR (oneP n) p = p := by
  unfold prodR oneP
  rw [List.flatMap_cons, List.flatMap_nil, List.append_nil]
  conv => rhs; rw [← List.map_id p]
  apply List.map_congr_left
  intro u hu
  have := (hp u.1 (List.mem_map.mpr ⟨u, hu, rfl⟩)).1
  show (addE (List.replicate n 0) u.1, 1 * u.2) = u
  rw [zero_addE this, Rat.one_mul]
theorem oneP_wf {n : Nat} : WF n (oneP n) where
  srt := by unfold oneP keysA; simp
  ok := fun e he => by
    unfold oneP keysA at he
    rw [List.map_cons, List.map_nil, List.mem_singleton] at he
    subst he
    exact ⟨List.length_replicate, fun m hm => by rw [List.eq_of_mem_replicate hm]; decide⟩
  nz := fun t ht => by
    unfold oneP at ht
    rw [List.mem_singleton] at ht
    subst ht
    show (1 : Rat) ≠ 0
    decide
theorem oneP_pk {n : Nat} {B : Int} (hB : 1 ≤ B) : PK n B (oneP n) := fun e he => by
  unfold oneP keysA at he
  rw [List.map_cons, List.map_nil, List.mem_singleton] at he
  subst he
  exact ⟨List.length_replicate, fun m hm => by rw [List.eq_of_mem_replicate hm]; omega⟩
/-- squares of few terms have few -/
theorem few_square {p : Pol} (h : p.length ≤ 4) : Few 11 (keysA (prodR p p)) := by
  have key : ∀ l : List (List Int), keysA p = l → l.length ≤ 4 → Few 11 (keysA (prodR p p)) := by
    intro l hl hlen
    have mem : ∀ e ∈ keysA (prodR p p), ∃ a ∈ l, ∃ b ∈ l, e = addE a b := fun e he => by
      obtain ⟨a, ha, b, hb, z⟩ := prodR_keys he
      rw [hl] at ha hb
      exact ⟨a, ha, b, hb, z⟩
    match l, hlen with
    | [], _ =>
      exact few_len (l := keysA (prodR p p)) (by
        cases h2 : keysA (prodR p p) with
        | nil => decide
        | cons x xs =>
          obtain ⟨a, ha, _⟩ := mem x (by rw [h2]; exact List.mem_cons_self)
          cases ha)
    | [a], _ =>
      exact few_sub (few_len (l := [addE a a]) (by show 1 < 11; decide)) fun e he => by
        obtain ⟨x, hx, y, hy, rfl⟩ := mem e he
        simp only [List.mem_cons, List.not_mem_nil, or_false] at hx hy ⊢
        subst hx hy; rfl
    | [a, b], _ =>
      exact few_sub (few_len (l := [addE a a, addE a b, addE b b]) (by show 3 < 11; decide)) fun e he => by
        obtain ⟨x, hx, y, hy, rfl⟩ := mem e he
        simp only [List.mem_cons, List.not_mem_nil, or_false] at hx hy ⊢
        rcases hx with hx | hx <;> rcases hy with hy | hy <;> rw [hx, hy] <;> simp [addE_comm b a]
    | [a, b, c], _ =>
      exact few_sub (few_len (l := [addE a a, addE a b, addE a c, addE b b, addE b c, addE c c]) (by show 6 < 11; decide)) fun e he => by
        obtain ⟨x, hx, y, hy, rfl⟩ := mem e he
        simp only [List.mem_cons, List.not_mem_nil, or_false] at hx hy ⊢
        rcases hx with hx | hx | hx <;> rcases hy with hy | hy | hy <;> rw [hx, hy] <;> simp [addE_comm b a, addE_comm c a, addE_comm c b]
    | [a, b, c, d], _ =>
      exact few_sub (few_len (l := [addE a a, addE a b, addE a c, addE a d, addE b b, addE b c, addE b d, addE c c, addE c d, addE d d]) (by show 10 < 11; decide)) fun e he => by
        obtain ⟨x, hx, y, hy, rfl⟩ := mem e he
        simp only [List.mem_cons, List.not_mem_nil, or_false] at hx hy ⊢
        rcases hx with hx | hx | hx | hx <;> rcases hy with hy | hy | hy | hy <;> rw [hx, hy] <;> simp [addE_comm b a, addE_comm c a, addE_comm d a, addE_comm c b, addE_comm d b, addE_comm d c]
    | _ :: _ :: _ :: _ :: _ :: _, h5 => simp at h5
  exact key _ rfl (by unfold keysA; rw [List.length_map]; exact h)
/-! ### the product as a polynomial -/
def accR (I : Pol) : Pol := I.foldl (fun T t => addR T t.1 t.2) []
theorem accR_snoc (I : Pol) (t : List Int × Rat) : accR (I ++ [t]) = addR (accR I) t.1 t.2 := by unfold accR; rw [List.foldl_append]; rfl
theorem accR_take {n L M : Nat} {I : Pol} (hk : KOk n (keysA I)) (hb : BT L M I) : ∀ j, j ≤ I.length → TS' n L M j (accR (I.take j)) (I.take j)
  | 0, _ => TS'.nil
  | j + 1, h => by
    have hj : j < I.length := h
    have e : I[j]? = some I[j] := List.getElem?_eq_getElem hj
    have ih := accR_take hk hb j (Nat.le_of_lt hj)
    rw [take_snoc e, accR_snoc]
    exact ih.add (hk _ (List.mem_map.mpr ⟨_, List.getElem_mem hj, rfl⟩)) (hb _ (List.getElem_mem hj))
theorem accR_all {n L M : Nat} {I : Pol} (hk : KOk n (keysA I)) (hb : BT L M I) : TS' n L M I.length (accR I) I := by
  have := accR_take hk hb I.length (Nat.le_refl _)
  rwa [List.take_length] at this
/-- sums of terms, as a polynomial -/
def sumP (I : Pol) : Pol := tidy (accR I)
def mulP (p q : Pol) : Pol := sumP (prodR p q)
theorem sumP_facts {n L M : Nat} {I : Pol} (hk : KOk n (keysA I)) (hb : BT L M I) : PB n L (M * I.length) (sumP I) ∧ (sumP I).length ≤ I.length ∧ (∀ e, co (sumP I) e = sumAt I e) ∧ ∀ e ∈ keysA (sumP I), e ∈ keysA I := by
  have h := accR_all hk hb
  obtain ⟨a, b, c⟩ := h.pb
  exact ⟨a, b, c, fun e he => h.sub e (tidy_keys e he)⟩
theorem sumP_eq {n L M : Nat} {I r : Pol} (hk : KOk n (keysA I)) (hb : BT L M I) (hr : WF n r) (h : ∀ e, co r e = sumAt I e) : r = sumP I :=
  hr.ext (sumP_facts hk hb).1.wf fun e => by rw [h, (sumP_facts hk hb).2.2.1]
theorem prodR_bt {L M L' M' : Nat} {p q : Pol} (hp : BT L M p) (hq : BT L' M' q) : BT (L * L') (M * M') (prodR p q) := fun x hx => by
  obtain ⟨t, ht, hx⟩ := List.mem_flatMap.mp hx
  obtain ⟨u, hu, rfl⟩ := List.mem_map.mp hx
  exact bq_mul (hp t ht) (hq u hu)
structure QB (n : Nat) (B : Int) (L M m : Nat) (p : Pol) : Prop where
  pb : PB n L M p
  pk : PK n B p
  len : p.length ≤ m
theorem QB.mul {n : Nat} {B B' : Int} {L M m L' M' m' : Nat} {p q : Pol} (hp : QB n B L M m p) (hq : QB n B' L' M' m' q) (hB : B + B' ≤ 1048576) : QB n (B + B') (L * L') (M * M' * (m * m')) (m * m') (mulP p q) ∧ ∀ e ∈ keysA (mulP p q), e ∈ keysA (prodR p q) := by
  have hk := (hp.pk.prod hq.pk).kok hB
  have hb := prodR_bt hp.pb.bd hq.pb.bd
  obtain ⟨a, b, c, d⟩ := sumP_facts hk hb
  have hl : p.length * q.length ≤ m * m' := Nat.mul_le_mul hp.len hq.len
  rw [prodR_len] at a b
  exact ⟨⟨⟨a.wf, a.bd.mono (Nat.mul_le_mul_left _ hl)⟩, fun e he => hp.pk.prod hq.pk e (d e he), Nat.le_trans b hl⟩, d⟩
theorem mulP_one {n : Nat} {B : Int} {L M m : Nat} {p : Pol} (hp : QB n B L M m p) (hB : B ≤ 1048576) : mulP (oneP n) p = p := by
  unfold mulP
  have e : prodR (oneP n) p = p := prod_one fun e he => ⟨(hp.pk e he).1, fun x hx => by have := (hp.pk e he).2 x hx; exact ⟨this.1, by omega⟩⟩
  rw [e]
  exact (sumP_eq (hp.pk.kok hB) hp.pb.bd hp.pb.wf fun a => (sumAt_co hp.pb.wf.nodup a).symm).symm
theorem bq_one : BQ 1 1 1 := ⟨by show (0 : Int) < ((1 : Rat).den : Int); decide, by show (((1 : Rat).den : Int)) ∣ ((1 : Nat) : Int); decide, by decide⟩
theorem oneP_qb {n : Nat} {B : Int} (hB : 1 ≤ B) : QB n B 1 1 1 (oneP n) := ⟨⟨oneP_wf, fun t ht => by
  unfold oneP at ht
  rw [List.mem_singleton] at ht
  subst ht
  exact bq_one⟩, oneP_pk hB, Nat.le_refl _⟩
theorem square_len {n : Nat} {B : Int} {L M : Nat} {p : Pol} (hp : QB n B L M 4 p) (hB : B + B ≤ 1048576) : (mulP p p).length ≤ 10 := by
  obtain ⟨a, b⟩ := hp.mul hp hB
  have := few_square hp.len (keysA (mulP p p)) a.pb.wf.nodup b
  unfold keysA at this
  rw [List.length_map] at this
  omega
theorem kitN1 : kitB "NoneType" "tuple" = some false := by decide +kernel
theorem kitN2 : kitB "NoneType" "list" = some false := by decide +kernel
theorem ixK {k : Nat} {x : D} {xs : List D} {S : Sto} (h : xs[k]? = some x) : gIx (.kt xs) (.int (k : Int)) S = some (x, S) := by
  unfold gIx
  dsimp only
  show (itemsOf S (.kt xs)).bind _ = _
  show (some xs).bind _ = _
  rw [Option.bind_some, atI_nat h]
  rfl
theorem _root_.List.filterMap_none' {α β : Type} {l : List α} : l.filterMap (fun _ => (none : Option β)) = [] := by
  induction l with
  | nil => rfl
  | cons x l ih => rw [List.filterMap_cons, ih]
theorem QB.mono {n : Nat} {B : Int} {L M m M' : Nat} {p : Pol} (h : QB n B L M m p) (k : M ≤ M') : QB n B L M' m p := ⟨⟨h.pb.wf, h.pb.bd.mono k⟩, h.pk, h.len⟩
theorem QB.wfl {n : Nat} {B : Int} {L M m : Nat} {p : Pol} (h : QB n B L M m p) : WF n p ∧ p.length ≤ m := ⟨h.pb.wf, h.len⟩
/-! a comprehension whose items are only described -/
theorem lt_len {α : Type} {l : List α} {i : Nat} {x : α} (h : l[i]? = some x) : i < l.length := by
  by_cases c : i < l.length
  · exact c
  · rw [List.getElem?_eq_none (by omega)] at h; cases h
theorem loopC_rel {t : Tgt} {el : M D} {sq : Sq} {xs : List D} {ρ0 : Env} {n0 : Nat} {S1 : Sto} {P : D → D → Prop} (hn : n0 = S1.length) (hl : xs.length < 1000000) (hsq : ∀ S, Keep S1 S → SqIs sq xs S)
    (hb : ∀ x ∈ xs, ∀ S, Keep S1 S → ∃ ρ1, t x ρ0 S = some ρ1 ∧ WV (el ρ1 S) fun d S3 => Keep S S3 ∧ P x d) :
    ∀ (n k : Nat) (S : Sto) (acc : List D), xs.length - k < n → k ≤ xs.length → acc.length = k → Keep S1 S → S[n0]? = some (.lst acc) → (∀ (i : Nat) (x y : D), xs[i]? = some x → acc[i]? = some y → P x y) →
      ∃ S' ys, loopC t mYes el sq ρ0 n0 n k S = some S' ∧ Keep S1 S' ∧ S'[n0]? = some (.lst ys) ∧ ys.length = xs.length ∧ ∀ (i : Nat) (x y : D), xs[i]? = some x → ys[i]? = some y → P x y
  | 0, k, S, acc, h, _, _, _, _, _ => absurd h (by omega)
  | n + 1, k, S, acc, h, hk, ha, kp, hs, hP => by
    rw [loopC, hsq S kp k]
    by_cases hlt : k < xs.length
    · have hx : xs[k]? = some xs[k] := List.getElem?_eq_getElem hlt
      rw [hx]
      obtain ⟨ρ1, e1, d, S3, e3, k3, p3⟩ := hb xs[k] (List.getElem_mem hlt) S kp
      have hs3 := k3 _ _ hs
      have ey : mYes ρ1 S = some (.val true S) := rfl
      dsimp only
      rw [e1]
      dsimp only
      rw [ey]
      dsimp only
      rw [e3]
      dsimp only
      rw [hs3]
      dsimp only
      rw [if_pos (by omega)]
      refine loopC_rel hn hl hsq hb n (k + 1) (S3.set n0 (.lst (acc ++ [d]))) (acc ++ [d]) (by omega) hlt (by rw [List.length_append, List.length_singleton, ha]) ((kp.trans k3).put (by omega) _) (List.getElem?_set_self (lt_of_get hs3)) fun i x y h1 h2 => ?_
      by_cases c : i < acc.length
      · rw [List.getElem?_append_left c] at h2
        exact hP i x y h1 h2
      · have hi : i = k := by
          have := lt_len h2
          rw [List.length_append, List.length_singleton] at this
          omega
        subst hi
        rw [hx] at h1
        cases h1
        rw [List.getElem?_append_right (by omega), ha, Nat.sub_self] at h2
        cases h2
        exact p3
    · have hx : xs[k]? = none := List.getElem?_eq_none (by omega)
      rw [hx]
      exact ⟨S, acc, rfl, kp, hs, by omega, hP⟩
theorem wv_lcR {vs : List Nat} {t : Tgt} {it : M Sq} {el : M D} {Q : D → Sto → Prop} {ρ : Env} {S : Sto} (xs : List D) (P : D → D → Prop) (hl : xs.length < 1000000)
    (h : WV (it ρ S) fun sq S1 => (∀ S, Keep S1 S → SqIs sq xs S) ∧
      (∀ x ∈ xs, ∀ S, Keep S1 S → ∃ ρ1, t x (wipeE ρ vs) S = some ρ1 ∧ WV (el ρ1 S) fun d S3 => Keep S S3 ∧ P x d) ∧
      ∀ i S2 ys, Keep S1 S2 → S1.length ≤ i → S2[i]? = some (.lst ys) → ys.length = xs.length → (∀ (i : Nat) (x y : D), xs[i]? = some x → ys[i]? = some y → P x y) → Q (.ref i) S2) : WV (mLc vs t it mYes el ρ S) Q := by
  refine wv_b (h.imp fun sq S1 h1 => ?_)
  obtain ⟨a1, a2, a3⟩ := h1
  obtain ⟨S', ys, b1, b2, b3, b4, b5⟩ := loopC_rel (S1 := S1) (P := P) (ρ0 := wipeE ρ vs) rfl hl a1 a2 fuel 0 (S1 ++ [.lst []]) [] (lt_fuel (k := 20) (Nat.lt_of_le_of_lt (Nat.sub_le _ _) (Nat.lt_trans hl (by decide))) (by omega)) (Nat.zero_le _) rfl (Keep.app _ _) get_new (fun i x y _ h => by cases h)
  exact ⟨.ref S1.length, S', by rw [b1], a3 _ _ ys b2 (Nat.le_refl _) b3 b4 b5⟩
end Rf
namespace Gn
open PySem PySem.Spec PyProof.Rows L2 Rf
def topS (i : Nat) : Stmt := PySem.Challenge.pw_rootfast_k15_moved_and_fixed_polynomials.main.body.getD i (.Pass ⟨0, 0, 0, 0⟩)
abbrev s_number : Stmt := topS 5
abbrev s_loose_plus : Stmt := topS 6
abbrev s_times : Stmt := topS 7
abbrev s_whole_power : Stmt := topS 8
abbrev s_power : Stmt := topS 9
abbrev s__collected : Stmt := topS 11
abbrev s__add_term : Stmt := topS 12
abbrev s__from_table : Stmt := topS 13
abbrev s__with_exponent : Stmt := topS 14
abbrev s_moved : Stmt := topS 15
abbrev s__moved_along : Stmt := topS 16
abbrev s__moved_row : Stmt := topS 17
abbrev s_fixed : Stmt := topS 18
abbrev s__law_cell : Stmt := topS 20
abbrev s__law_draws : Stmt := topS 21
abbrev s__law_is_int : Stmt := topS 22
abbrev s__law_is_text : Stmt := topS 23
abbrev s__law_is_number : Stmt := topS 24
abbrev s__law_gcd : Stmt := topS 25
abbrev s__law_frac : Stmt := topS 26
abbrev s__law_add : Stmt := topS 27
abbrev s__law_mul : Stmt := topS 28
abbrev s__law_power : Stmt := topS 29
abbrev s__law_same : Stmt := topS 30
abbrev s__law_small : Stmt := topS 31
abbrev s__law_tidy : Stmt := topS 32
abbrev s__law_put : Stmt := topS 33
abbrev s__law_padd : Stmt := topS 34
abbrev s__law_pmul : Stmt := topS 35
abbrev s__law_const : Stmt := topS 36
abbrev s__law_var : Stmt := topS 37
abbrev s__law_ppow : Stmt := topS 38
abbrev s__law_moved : Stmt := topS 39
abbrev s__law_fixed : Stmt := topS 40
abbrev s__law_poly : Stmt := topS 41
abbrev s__law_point : Stmt := topS 42
abbrev s_law : Stmt := topS 43
theorem sc_number : FnScope ["a", "b", "common"] ["a", "b"] (defScope s_number) := ⟨rfl, rfl, rfl, by decide +kernel, rfl, by decide +kernel, by decide +kernel⟩
theorem sc_loose_plus : FnScope ["x", "y", "a", "b", "c", "d", "below"] ["x", "y"] (defScope s_loose_plus) := ⟨rfl, rfl, rfl, by decide +kernel, rfl, by decide +kernel, by decide +kernel⟩
theorem sc_times : FnScope ["x", "y", "a", "b", "c", "d", "first", "second"] ["x", "y"] (defScope s_times) := ⟨rfl, rfl, rfl, by decide +kernel, rfl, by decide +kernel, by decide +kernel⟩
theorem sc_whole_power : FnScope ["a", "k", "result", "bit"] ["a", "k"] (defScope s_whole_power) := ⟨rfl, rfl, rfl, by decide +kernel, rfl, by decide +kernel, by decide +kernel⟩
theorem sc_power : FnScope ["x", "k"] ["x", "k"] (defScope s_power) := ⟨rfl, rfl, rfl, by decide +kernel, rfl, by decide +kernel, by decide +kernel⟩
theorem sc__collected : FnScope ["pairs", "table", "exponents", "coefficient"] ["pairs"] (defScope s__collected) := ⟨rfl, rfl, rfl, by decide +kernel, rfl, by decide +kernel, by decide +kernel⟩
theorem sc__add_term : FnScope ["table", "exponents", "coefficient"] ["table", "exponents", "coefficient"] (defScope s__add_term) := ⟨rfl, rfl, rfl, by decide +kernel, rfl, by decide +kernel, by decide +kernel⟩
theorem sc__from_table : FnScope ["table", "terms", "exponents", "a", "b"] ["table"] (defScope s__from_table) := ⟨rfl, rfl, rfl, by decide +kernel, rfl, by decide +kernel, by decide +kernel⟩
theorem sc__with_exponent : FnScope ["exponents", "k", "e"] ["exponents", "k", "e"] (defScope s__with_exponent) := ⟨rfl, rfl, rfl, by decide +kernel, rfl, by decide +kernel, by decide +kernel⟩
theorem sc_moved : FnScope ["n", "p", "point", "k"] ["n", "p", "point"] (defScope s_moved) := ⟨rfl, rfl, rfl, by decide +kernel, rfl, by decide +kernel, by decide +kernel⟩
theorem sc__moved_along : FnScope ["p", "k", "x", "rows", "exponents", "coefficient", "others", "table", "e", "above", "below"] ["p", "k", "x"] (defScope s__moved_along) := ⟨rfl, rfl, rfl, by decide +kernel, rfl, by decide +kernel, by decide +kernel⟩
theorem sc__moved_row : FnScope ["row", "x", "a", "b", "top", "below", "_", "coefficient", "e", "powers", "wholes", "start"] ["row", "x"] (defScope s__moved_row) := ⟨rfl, rfl, rfl, by decide +kernel, rfl, by decide +kernel, by decide +kernel⟩
theorem sc_fixed : FnScope ["n", "p", "k", "x", "pairs", "exponents", "coefficient", "worth"] ["n", "p", "k", "x"] (defScope s_fixed) := ⟨rfl, rfl, rfl, by decide +kernel, rfl, by decide +kernel, by decide +kernel⟩
theorem sc__law_cell : FnScope ["script", "k"] ["script", "k"] (defScope s__law_cell) := ⟨rfl, rfl, rfl, by decide +kernel, rfl, by decide +kernel, by decide +kernel⟩
theorem sc__law_draws : FnScope ["cell", "count", "rows", "left", "k", "mixed"] ["cell", "count"] (defScope s__law_draws) := ⟨rfl, rfl, rfl, by decide +kernel, rfl, by decide +kernel, by decide +kernel⟩
theorem sc__law_is_int : FnScope ["x"] ["x"] (defScope s__law_is_int) := ⟨rfl, rfl, rfl, by decide +kernel, rfl, by decide +kernel, by decide +kernel⟩
theorem sc__law_is_text : FnScope ["x", "due"] ["x", "due"] (defScope s__law_is_text) := ⟨rfl, rfl, rfl, by decide +kernel, rfl, by decide +kernel, by decide +kernel⟩
theorem sc__law_is_number : FnScope ["x", "due"] ["x", "due"] (defScope s__law_is_number) := ⟨rfl, rfl, rfl, by decide +kernel, rfl, by decide +kernel, by decide +kernel⟩
theorem sc__law_gcd : FnScope ["a", "b"] ["a", "b"] (defScope s__law_gcd) := ⟨rfl, rfl, rfl, by decide +kernel, rfl, by decide +kernel, by decide +kernel⟩
theorem sc__law_frac : FnScope ["a", "b", "common"] ["a", "b"] (defScope s__law_frac) := ⟨rfl, rfl, rfl, by decide +kernel, rfl, by decide +kernel, by decide +kernel⟩
theorem sc__law_add : FnScope ["x", "y"] ["x", "y"] (defScope s__law_add) := ⟨rfl, rfl, rfl, by decide +kernel, rfl, by decide +kernel, by decide +kernel⟩
theorem sc__law_mul : FnScope ["x", "y"] ["x", "y"] (defScope s__law_mul) := ⟨rfl, rfl, rfl, by decide +kernel, rfl, by decide +kernel, by decide +kernel⟩
theorem sc__law_power : FnScope ["x", "k", "found", "turn"] ["x", "k"] (defScope s__law_power) := ⟨rfl, rfl, rfl, by decide +kernel, rfl, by decide +kernel, by decide +kernel⟩
theorem sc__law_same : FnScope ["x", "due", "k"] ["x", "due"] (defScope s__law_same) := ⟨rfl, rfl, rfl, by decide +kernel, rfl, by decide +kernel, by decide +kernel⟩
theorem sc__law_small : FnScope ["draw"] ["draw"] (defScope s__law_small) := ⟨rfl, rfl, rfl, by decide +kernel, rfl, by decide +kernel, by decide +kernel⟩
theorem sc__law_tidy : FnScope ["sums", "e"] ["sums"] (defScope s__law_tidy) := ⟨rfl, rfl, rfl, by decide +kernel, rfl, by decide +kernel, by decide +kernel⟩
theorem sc__law_put : FnScope ["sums", "e", "x"] ["sums", "e", "x"] (defScope s__law_put) := ⟨rfl, rfl, rfl, by decide +kernel, rfl, by decide +kernel, by decide +kernel⟩
theorem sc__law_padd : FnScope ["p", "q", "sums", "e", "x"] ["p", "q"] (defScope s__law_padd) := ⟨rfl, rfl, rfl, by decide +kernel, rfl, by decide +kernel, by decide +kernel⟩
theorem sc__law_pmul : FnScope ["p", "q", "sums", "e", "x", "f", "y", "k"] ["p", "q"] (defScope s__law_pmul) := ⟨rfl, rfl, rfl, by decide +kernel, rfl, by decide +kernel, by decide +kernel⟩
theorem sc__law_const : FnScope ["n", "x"] ["n", "x"] (defScope s__law_const) := ⟨rfl, rfl, rfl, by decide +kernel, rfl, by decide +kernel, by decide +kernel⟩
theorem sc__law_var : FnScope ["n", "k", "at"] ["n", "k"] (defScope s__law_var) := ⟨rfl, rfl, rfl, by decide +kernel, rfl, by decide +kernel, by decide +kernel⟩
theorem sc__law_ppow : FnScope ["n", "p", "k", "found", "turn"] ["n", "p", "k"] (defScope s__law_ppow) := ⟨rfl, rfl, rfl, by decide +kernel, rfl, by decide +kernel, by decide +kernel⟩
theorem sc__law_moved : FnScope ["n", "p", "point", "total", "e", "x", "part", "k"] ["n", "p", "point"] (defScope s__law_moved) := ⟨rfl, rfl, rfl, by decide +kernel, rfl, by decide +kernel, by decide +kernel⟩
theorem sc__law_fixed : FnScope ["p", "k", "x", "sums", "e", "y"] ["p", "k", "x"] (defScope s__law_fixed) := ⟨rfl, rfl, rfl, by decide +kernel, rfl, by decide +kernel, by decide +kernel⟩
theorem sc__law_poly : FnScope ["n", "draws", "at", "most", "high", "sums", "k", "d", "e", "i"] ["n", "draws", "at", "most", "high"] (defScope s__law_poly) := ⟨rfl, rfl, rfl, by decide +kernel, rfl, by decide +kernel, by decide +kernel⟩
theorem sc__law_point : FnScope ["n", "draws", "at", "k"] ["n", "draws", "at"] (defScope s__law_point) := ⟨rfl, rfl, rfl, by decide +kernel, rfl, by decide +kernel, by decide +kernel⟩
theorem sc_law : FnScope ["script", "turn", "draws", "n", "p", "point", "k", "x"] ["script"] (defScope s_law) := ⟨rfl, rfl, rfl, by decide +kernel, rfl, by decide +kernel, by decide +kernel⟩
structure Adr where
  f_number : Addr
  d_number : FuncData
  f_loose_plus : Addr
  d_loose_plus : FuncData
  f_times : Addr
  d_times : FuncData
  f_whole_power : Addr
  d_whole_power : FuncData
  f_power : Addr
  d_power : FuncData
  f__collected : Addr
  d__collected : FuncData
  f__add_term : Addr
  d__add_term : FuncData
  f__from_table : Addr
  d__from_table : FuncData
  f__with_exponent : Addr
  d__with_exponent : FuncData
  f_moved : Addr
  d_moved : FuncData
  f__moved_along : Addr
  d__moved_along : FuncData
  f__moved_row : Addr
  d__moved_row : FuncData
  f_fixed : Addr
  d_fixed : FuncData
  f__law_cell : Addr
  d__law_cell : FuncData
  f__law_draws : Addr
  d__law_draws : FuncData
  f__law_is_int : Addr
  d__law_is_int : FuncData
  f__law_is_text : Addr
  d__law_is_text : FuncData
  f__law_is_number : Addr
  d__law_is_number : FuncData
  f__law_gcd : Addr
  d__law_gcd : FuncData
  f__law_frac : Addr
  d__law_frac : FuncData
  f__law_add : Addr
  d__law_add : FuncData
  f__law_mul : Addr
  d__law_mul : FuncData
  f__law_power : Addr
  d__law_power : FuncData
  f__law_same : Addr
  d__law_same : FuncData
  f__law_small : Addr
  d__law_small : FuncData
  f__law_tidy : Addr
  d__law_tidy : FuncData
  f__law_put : Addr
  d__law_put : FuncData
  f__law_padd : Addr
  d__law_padd : FuncData
  f__law_pmul : Addr
  d__law_pmul : FuncData
  f__law_const : Addr
  d__law_const : FuncData
  f__law_var : Addr
  d__law_var : FuncData
  f__law_ppow : Addr
  d__law_ppow : FuncData
  f__law_moved : Addr
  d__law_moved : FuncData
  f__law_fixed : Addr
  d__law_fixed : FuncData
  f__law_poly : Addr
  d__law_poly : FuncData
  f__law_point : Addr
  d__law_point : FuncData
  f_law : Addr
  d_law : FuncData
  c_RootfastError : Addr
  c_BadNumber : Addr
def ecOf (a : Adr) : Str → Value := fun x => if x = "RootfastError" then .ref a.c_RootfastError else if x = "BadNumber" then .ref a.c_BadNumber else .none
theorem ec_RootfastError (a : Adr) : ecOf a "RootfastError" = .ref a.c_RootfastError := by rfl
theorem ec_BadNumber (a : Adr) : ecOf a "BadNumber" = .ref a.c_BadNumber := by rfl
structure Txt (K : PySem.W.Frag) (mg : Str → Option Value) (a : Adr) : Prop where
  F_number : Fun K "number" "number" s_number a.f_number a.d_number
  b_number : Binds K a.d_number ["a", "b"] []
  g_number : mg "number" = some (.ref a.f_number)
  F_loose_plus : Fun K "loose_plus" "loose_plus" s_loose_plus a.f_loose_plus a.d_loose_plus
  b_loose_plus : Binds K a.d_loose_plus ["x", "y"] []
  g_loose_plus : mg "loose_plus" = some (.ref a.f_loose_plus)
  F_times : Fun K "times" "times" s_times a.f_times a.d_times
  b_times : Binds K a.d_times ["x", "y"] []
  g_times : mg "times" = some (.ref a.f_times)
  F_whole_power : Fun K "whole_power" "whole_power" s_whole_power a.f_whole_power a.d_whole_power
  b_whole_power : Binds K a.d_whole_power ["a", "k"] []
  g_whole_power : mg "whole_power" = some (.ref a.f_whole_power)
  F_power : Fun K "power" "power" s_power a.f_power a.d_power
  b_power : Binds K a.d_power ["x", "k"] []
  g_power : mg "power" = some (.ref a.f_power)
  F__collected : Fun K "_collected" "_collected" s__collected a.f__collected a.d__collected
  b__collected : Binds K a.d__collected ["pairs"] []
  g__collected : mg "_collected" = some (.ref a.f__collected)
  F__add_term : Fun K "_add_term" "_add_term" s__add_term a.f__add_term a.d__add_term
  b__add_term : Binds K a.d__add_term ["table", "exponents", "coefficient"] []
  g__add_term : mg "_add_term" = some (.ref a.f__add_term)
  F__from_table : Fun K "_from_table" "_from_table" s__from_table a.f__from_table a.d__from_table
  b__from_table : Binds K a.d__from_table ["table"] []
  g__from_table : mg "_from_table" = some (.ref a.f__from_table)
  F__with_exponent : Fun K "_with_exponent" "_with_exponent" s__with_exponent a.f__with_exponent a.d__with_exponent
  b__with_exponent : Binds K a.d__with_exponent ["exponents", "k", "e"] []
  g__with_exponent : mg "_with_exponent" = some (.ref a.f__with_exponent)
  F_moved : Fun K "moved" "moved" s_moved a.f_moved a.d_moved
  b_moved : Binds K a.d_moved ["n", "p", "point"] []
  g_moved : mg "moved" = some (.ref a.f_moved)
  F__moved_along : Fun K "_moved_along" "_moved_along" s__moved_along a.f__moved_along a.d__moved_along
  b__moved_along : Binds K a.d__moved_along ["p", "k", "x"] []
  g__moved_along : mg "_moved_along" = some (.ref a.f__moved_along)
  F__moved_row : Fun K "_moved_row" "_moved_row" s__moved_row a.f__moved_row a.d__moved_row
  b__moved_row : Binds K a.d__moved_row ["row", "x"] []
  g__moved_row : mg "_moved_row" = some (.ref a.f__moved_row)
  F_fixed : Fun K "fixed" "fixed" s_fixed a.f_fixed a.d_fixed
  b_fixed : Binds K a.d_fixed ["n", "p", "k", "x"] []
  g_fixed : mg "fixed" = some (.ref a.f_fixed)
  F__law_cell : Fun K "_law_cell" "_law_cell" s__law_cell a.f__law_cell a.d__law_cell
  b__law_cell : Binds K a.d__law_cell ["script", "k"] []
  g__law_cell : mg "_law_cell" = some (.ref a.f__law_cell)
  F__law_draws : Fun K "_law_draws" "_law_draws" s__law_draws a.f__law_draws a.d__law_draws
  b__law_draws : Binds K a.d__law_draws ["cell", "count"] []
  g__law_draws : mg "_law_draws" = some (.ref a.f__law_draws)
  F__law_is_int : Fun K "_law_is_int" "_law_is_int" s__law_is_int a.f__law_is_int a.d__law_is_int
  b__law_is_int : Binds K a.d__law_is_int ["x"] []
  g__law_is_int : mg "_law_is_int" = some (.ref a.f__law_is_int)
  F__law_is_text : Fun K "_law_is_text" "_law_is_text" s__law_is_text a.f__law_is_text a.d__law_is_text
  b__law_is_text : Binds K a.d__law_is_text ["x", "due"] []
  g__law_is_text : mg "_law_is_text" = some (.ref a.f__law_is_text)
  F__law_is_number : Fun K "_law_is_number" "_law_is_number" s__law_is_number a.f__law_is_number a.d__law_is_number
  b__law_is_number : Binds K a.d__law_is_number ["x", "due"] []
  g__law_is_number : mg "_law_is_number" = some (.ref a.f__law_is_number)
  F__law_gcd : Fun K "_law_gcd" "_law_gcd" s__law_gcd a.f__law_gcd a.d__law_gcd
  b__law_gcd : Binds K a.d__law_gcd ["a", "b"] []
  g__law_gcd : mg "_law_gcd" = some (.ref a.f__law_gcd)
  F__law_frac : Fun K "_law_frac" "_law_frac" s__law_frac a.f__law_frac a.d__law_frac
  b__law_frac : Binds K a.d__law_frac ["a", "b"] []
  g__law_frac : mg "_law_frac" = some (.ref a.f__law_frac)
  F__law_add : Fun K "_law_add" "_law_add" s__law_add a.f__law_add a.d__law_add
  b__law_add : Binds K a.d__law_add ["x", "y"] []
  g__law_add : mg "_law_add" = some (.ref a.f__law_add)
  F__law_mul : Fun K "_law_mul" "_law_mul" s__law_mul a.f__law_mul a.d__law_mul
  b__law_mul : Binds K a.d__law_mul ["x", "y"] []
  g__law_mul : mg "_law_mul" = some (.ref a.f__law_mul)
  F__law_power : Fun K "_law_power" "_law_power" s__law_power a.f__law_power a.d__law_power
  b__law_power : Binds K a.d__law_power ["x", "k"] []
  g__law_power : mg "_law_power" = some (.ref a.f__law_power)
  F__law_same : Fun K "_law_same" "_law_same" s__law_same a.f__law_same a.d__law_same
  b__law_same : Binds K a.d__law_same ["x", "due"] []
  g__law_same : mg "_law_same" = some (.ref a.f__law_same)
  F__law_small : Fun K "_law_small" "_law_small" s__law_small a.f__law_small a.d__law_small
  b__law_small : Binds K a.d__law_small ["draw"] []
  g__law_small : mg "_law_small" = some (.ref a.f__law_small)
  F__law_tidy : Fun K "_law_tidy" "_law_tidy" s__law_tidy a.f__law_tidy a.d__law_tidy
  b__law_tidy : Binds K a.d__law_tidy ["sums"] []
  g__law_tidy : mg "_law_tidy" = some (.ref a.f__law_tidy)
  F__law_put : Fun K "_law_put" "_law_put" s__law_put a.f__law_put a.d__law_put
  b__law_put : Binds K a.d__law_put ["sums", "e", "x"] []
  g__law_put : mg "_law_put" = some (.ref a.f__law_put)
  F__law_padd : Fun K "_law_padd" "_law_padd" s__law_padd a.f__law_padd a.d__law_padd
  b__law_padd : Binds K a.d__law_padd ["p", "q"] []
  g__law_padd : mg "_law_padd" = some (.ref a.f__law_padd)
  F__law_pmul : Fun K "_law_pmul" "_law_pmul" s__law_pmul a.f__law_pmul a.d__law_pmul
  b__law_pmul : Binds K a.d__law_pmul ["p", "q"] []
  g__law_pmul : mg "_law_pmul" = some (.ref a.f__law_pmul)
  F__law_const : Fun K "_law_const" "_law_const" s__law_const a.f__law_const a.d__law_const
  b__law_const : Binds K a.d__law_const ["n", "x"] []
  g__law_const : mg "_law_const" = some (.ref a.f__law_const)
  F__law_var : Fun K "_law_var" "_law_var" s__law_var a.f__law_var a.d__law_var
  b__law_var : Binds K a.d__law_var ["n", "k"] []
  g__law_var : mg "_law_var" = some (.ref a.f__law_var)
  F__law_ppow : Fun K "_law_ppow" "_law_ppow" s__law_ppow a.f__law_ppow a.d__law_ppow
  b__law_ppow : Binds K a.d__law_ppow ["n", "p", "k"] []
  g__law_ppow : mg "_law_ppow" = some (.ref a.f__law_ppow)
  F__law_moved : Fun K "_law_moved" "_law_moved" s__law_moved a.f__law_moved a.d__law_moved
  b__law_moved : Binds K a.d__law_moved ["n", "p", "point"] []
  g__law_moved : mg "_law_moved" = some (.ref a.f__law_moved)
  F__law_fixed : Fun K "_law_fixed" "_law_fixed" s__law_fixed a.f__law_fixed a.d__law_fixed
  b__law_fixed : Binds K a.d__law_fixed ["p", "k", "x"] []
  g__law_fixed : mg "_law_fixed" = some (.ref a.f__law_fixed)
  F__law_poly : Fun K "_law_poly" "_law_poly" s__law_poly a.f__law_poly a.d__law_poly
  b__law_poly : Binds K a.d__law_poly ["n", "draws", "at", "most", "high"] []
  g__law_poly : mg "_law_poly" = some (.ref a.f__law_poly)
  F__law_point : Fun K "_law_point" "_law_point" s__law_point a.f__law_point a.d__law_point
  b__law_point : Binds K a.d__law_point ["n", "draws", "at"] []
  g__law_point : mg "_law_point" = some (.ref a.f__law_point)
  F_law : Fun K "law" "law" s_law a.f_law a.d_law
  b_law : Binds K a.d_law ["script"] []
  g_law : mg "law" = some (.ref a.f_law)
  z_abs : mg "abs" = none
  z_bool : mg "bool" = none
  z_int : mg "int" = none
  z_isinstance : mg "isinstance" = none
  z_len : mg "len" = none
  z_list : mg "list" = none
  z_range : mg "range" = none
  z_reversed : mg "reversed" = none
  z_sorted : mg "sorted" = none
  z_str : mg "str" = none
  z_tuple : mg "tuple" = none
  z_gcd : mg "gcd" = some (.builtin "math.gcd")
  z_lcm : mg "lcm" = some (.builtin "math.lcm")
  g_BadNumber : mg "BadNumber" = some (.ref a.c_BadNumber)
  x_BadNumber : PySem.W.excIn K a.c_BadNumber [.type "ValueError", .type "Exception", .type "BaseException", .type "object"] "ValueError.__new__" = true
  k_BadNumber : PySem.W.keepIn K (.ref a.c_BadNumber) = true
  s_BadNumber : PySem.W.subIn K (.ref a.c_BadNumber) (.type "BaseException") = some true
  t_BadNumber : PySem.W.typeIn K (.ref a.c_BadNumber) = some (.type "type")
/-! ### the defs, by values -/
theorem mNilL : ∀ (ρ : Rf.Env) (S : Sto) (ds : List D) (S' : Sto), mNil ρ S = some (.val ds S') → ds.length = 0 := fun _ _ _ _ h => mNil_len h
def m_number : MS :=
    (sSeq (sIf (mT (mOp gEq (mVar 1) (mRet (.int 0)))) (sRaise "BadNumber") sNil)
    (sSeq (sSet 2 (mBi gGcd (mCons (mVar 0) (mCons (mVar 1) mNil))))
    (sSeq (sIf (mT (mOp gLt (mVar 1) (mRet (.int 0)))) (sSet 2 (mUn gNeg (mVar 2))) sNil)
    (sRet (mTup (mCons (mOp gDiv (mVar 0) (mVar 2)) (mCons (mOp gDiv (mVar 1) (mVar 2)) mNil)))))))
def F_number : List D → Sto → Option (R D) := fnOf 3 m_number
def m_loose_plus : MS :=
    (sSeq (sAsg (tTp 2 (tCons' (tN 2) (tCons' (tN 3) tNil'))) (mVar 0))
    (sSeq (sAsg (tTp 2 (tCons' (tN 4) (tCons' (tN 5) tNil'))) (mVar 1))
    (sSeq (sIf (mT (mOp gEq (mVar 3) (mVar 5))) (sRet (mTup (mCons (mOp gAdd (mVar 2) (mVar 4)) (mCons (mVar 3) mNil)))) sNil)
    (sSeq (sSet 6 (mBi gLcm (mCons (mVar 3) (mCons (mVar 5) mNil))))
    (sRet (mTup (mCons (mOp gAdd (mOp gMul (mVar 2) (mOp gDiv (mVar 6) (mVar 3))) (mOp gMul (mVar 4) (mOp gDiv (mVar 6) (mVar 5)))) (mCons (mVar 6) mNil))))))))
def F_loose_plus : List D → Sto → Option (R D) := fnOf 7 m_loose_plus
def m_times : MS :=
    (sSeq (sAsg (tTp 2 (tCons' (tN 2) (tCons' (tN 3) tNil'))) (mVar 0))
    (sSeq (sAsg (tTp 2 (tCons' (tN 4) (tCons' (tN 5) tNil'))) (mVar 1))
    (sSeq (sSet 6 (mBi gGcd (mCons (mVar 2) (mCons (mVar 5) mNil))))
    (sSeq (sSet 7 (mBi gGcd (mCons (mVar 4) (mCons (mVar 3) mNil))))
    (sRet (mTup (mCons (mOp gMul (mOp gDiv (mVar 2) (mVar 6)) (mOp gDiv (mVar 4) (mVar 7))) (mCons (mOp gMul (mOp gDiv (mVar 3) (mVar 7)) (mOp gDiv (mVar 5) (mVar 6))) mNil))))))))
def F_times : List D → Sto → Option (R D) := fnOf 8 m_times
def L0_whole_power : MS := (sSeq (sSet 2 (mOp gMul (mVar 2) (mVar 2)))
    (sIf (mTru (mOp gAnd (mOp gShr (mVar 1) (mVar 3)) (mRet (.int 1)))) (sSet 2 (mOp gMul (mVar 2) (mVar 0))) sNil))
def m_whole_power : MS :=
    (sSeq (sSet 2 (mRet (.int 1)))
    (sSeq (sFor (tN 3) (mRev1 (mUn gBits (mVar 1))) L0_whole_power)
    (sRet (mVar 2))))
def F_whole_power : List D → Sto → Option (R D) := fnOf 4 m_whole_power
def m__with_exponent : MS :=
    (sRet (mOp gAdd (mOp gAdd (mSxH (mVar 0) (mVar 1)) (mTup (mCons (mVar 2) mNil))) (mSxL (mVar 0) (mOp gAdd (mVar 1) (mRet (.int 1))))))
def F__with_exponent : List D → Sto → Option (R D) := fnOf 3 m__with_exponent
def m__law_cell : MS :=
    (sSeq (sIf (mT (mOp gLt (mVar 1) (mBi gLen (mCons (mVar 0) mNil)))) (sRet (mOp gIx (mVar 0) (mVar 1))) sNil)
    (sRet (mRet (.int 0))))
def F__law_cell : List D → Sto → Option (R D) := fnOf 2 m__law_cell
def L0__law_draws : MS := (sIf (mAnd (mT (mOp gGe (mVar 0) (mOp gPow (mRet (.int 10)) (mRet (.int 18))))) (mT (mOp gGt (mVar 3) (mRet (.int 0))))) (sSeq (sEx (mApp (mVar 2) (mOp gMod (mBi gInt (mCons (mVar 3) mNil)) (mRet (.int 4096)))))
    (sSet 3 (mOp gDiv (mVar 3) (mRet (.int 4096))))) (sSeq (sSet 5 (mOp gMod (mBi gInt (mCons (mOp gAdd (mOp gMul (mVar 0) (mRet (.int 48271))) (mOp gMul (mOp gAdd (mVar 4) (mRet (.int 1))) (mRet (.int 69621)))) mNil)) (mRet (.int 2147483647))))
    (sSeq (sSet 5 (mOp gMod (mBi gInt (mCons (mOp gAdd (mOp gAdd (mOp gMul (mVar 5) (mVar 5)) (mOp gMul (mVar 5) (mRet (.int 16807)))) (mOp gMul (mVar 4) (mRet (.int 7919)))) mNil)) (mRet (.int 2147483629))))
    (sSeq (sSet 5 (mOp gMod (mBi gInt (mCons (mOp gAdd (mOp gAdd (mOp gMul (mVar 5) (mVar 5)) (mVar 0)) (mOp gMul (mRet (.int 13)) (mVar 4))) mNil)) (mRet (.int 2147483587))))
    (sEx (mApp (mVar 2) (mOp gMod (mOp gDiv (mVar 5) (mRet (.int 7))) (mRet (.int 4096)))))))))
def m__law_draws : MS :=
    (sSeq (sSet 2 (mLst mNil))
    (sSeq (sSet 3 (mVar 0))
    (sSeq (sFor (tN 4) (mRng1 (mCons (mVar 1) mNil)) L0__law_draws)
    (sRet (mVar 2)))))
def F__law_draws : List D → Sto → Option (R D) := fnOf 6 m__law_draws
def m__law_is_int : MS :=
    (sRet (mAndV (mBi gIsi (mCons (mVar 0) (mCons (mRet (.ty "int")) mNil))) (mUn gNot (mBi gIsi (mCons (mVar 0) (mCons (mRet (.ty "bool")) mNil))))))
def F__law_is_int : List D → Sto → Option (R D) := fnOf 1 m__law_is_int
def m__law_is_text : MS :=
    (sRet (mAndV (mBi gIsi (mCons (mVar 0) (mCons (mRet (.ty "str")) mNil))) (mOp gEq (mVar 0) (mVar 1))))
def F__law_is_text : List D → Sto → Option (R D) := fnOf 2 m__law_is_text
def L0__law_gcd : M Bool := (mT (mOp gNe (mVar 1) (mRet (.int 0))))
def L1__law_gcd : MS := (sPar 0 1 (mCons (mVar 1) (mCons (mOp gMod (mBi gInt (mCons (mVar 0) mNil)) (mVar 1)) mNil)))
def m__law_gcd : MS :=
    (sSeq (sSet 0 (mBi gAbs (mCons (mVar 0) mNil)))
    (sSeq (sSet 1 (mBi gAbs (mCons (mVar 1) mNil)))
    (sSeq (sWhile L0__law_gcd L1__law_gcd)
    (sRet (mVar 0)))))
def F__law_gcd : List D → Sto → Option (R D) := fnOf 2 m__law_gcd
def L0__law_tidy : M Bool := (mT (mOp gNe (mOp gIx (mDGet (mVar 0) (mVar 1)) (mRet (.int 0))) (mRet (.int 0))))
def L1__law_tidy : M D := (mTup (mCons (mVar 1) (mCons (mDGet (mVar 0) (mVar 1)) mNil)))
def m__law_tidy : MS :=
    (sRet (mBi gTupOf (mCons (mLc [1] (tN 1) (mSeq (mBi gSortD (mCons (mVar 0) mNil))) L0__law_tidy L1__law_tidy) mNil)))
def F__law_tidy : List D → Sto → Option (R D) := fnOf 2 m__law_tidy
def L0__law_var : M D := (mBi gInt (mCons (mOp gEq (mVar 2) (mVar 1)) mNil))
def m__law_var : MS :=
    (sRet (mTup (mCons (mTup (mCons (mBi gTupOf (mCons (mLc [2] (tN 2) (mRng1 (mCons (mVar 0) mNil)) mYes L0__law_var) mNil)) (mCons (mTup (mCons (mRet (.int 1)) (mCons (mRet (.int 1)) mNil))) mNil))) mNil)))
def F__law_var : List D → Sto → Option (R D) := fnOf 3 m__law_var
def m_power : MS :=
    (sRet (mTup (mCons (mCall F_whole_power (mCons (mOp gIx (mVar 0) (mRet (.int 0))) (mCons (mVar 1) mNil))) (mCons (mCall F_whole_power (mCons (mOp gIx (mVar 0) (mRet (.int 1))) (mCons (mVar 1) mNil))) mNil))))
def F_power : List D → Sto → Option (R D) := fnOf 2 m_power
def m__add_term : MS :=
    (sSeq (sIf (mDIn false (mVar 1) (mVar 0)) (sSet 2 (mCall F_loose_plus (mCons (mDGet (mVar 0) (mVar 1)) (mCons (mVar 2) mNil)))) sNil)
    (sDPut (mVar 0) (mVar 1) (mVar 2)))
def F__add_term : List D → Sto → Option (R D) := fnOf 3 m__add_term
def L0__from_table : MS := (sSeq (sAsg (tTp 2 (tCons' (tN 3) (tCons' (tN 4) tNil'))) (mDGet (mVar 0) (mVar 2)))
    (sIf (mT (mOp gNe (mVar 3) (mRet (.int 0)))) (sEx (mApp (mVar 1) (mTup (mCons (mVar 2) (mCons (mCall F_number (mCons (mVar 3) (mCons (mVar 4) mNil))) mNil))))) sNil))
def m__from_table : MS :=
    (sSeq (sSet 1 (mLst mNil))
    (sSeq (sFor (tN 2) (mSeq (mBi gSortD (mCons (mVar 0) mNil))) L0__from_table)
    (sRet (mBi gTupOf (mCons (mVar 1) mNil)))))
def F__from_table : List D → Sto → Option (R D) := fnOf 5 m__from_table
def L0__moved_row : MS := (sSet 5 (mBi gLcm (mCons (mVar 5) (mCons (mOp gIx (mVar 7) (mRet (.int 1))) mNil))))
def L1__moved_row : M D := (mCall F_whole_power (mCons (mVar 3) (mCons (mVar 8) mNil)))
def L2__moved_row : MS := (sLPut (mVar 10) (mVar 8) (mOp gMul (mOp gMul (mOp gIx (mVar 7) (mRet (.int 0))) (mOp gDiv (mVar 5) (mOp gIx (mVar 7) (mRet (.int 1))))) (mOp gIx (mVar 9) (mOp gSub (mVar 4) (mVar 8)))))
def L3__moved_row : MS := (sLAug (fun i j => i + j) (mVar 10) (mVar 8) (mOp gMul (mVar 2) (mOp gIx (mVar 10) (mOp gAdd (mVar 8) (mRet (.int 1))))))
def L4__moved_row : MS := (sFor (tN 8) (mRev2 (mVar 11) (mVar 4)) L3__moved_row)
def L5__moved_row : M D := (mTup (mCons (mVar 8) (mCons (mOp gIx (mVar 10) (mVar 8)) (mCons (mOp gMul (mVar 5) (mOp gIx (mVar 9) (mOp gSub (mVar 4) (mVar 8)))) mNil))))
def m__moved_row : MS :=
    (sSeq (sAsg (tTp 2 (tCons' (tN 2) (tCons' (tN 3) tNil'))) (mVar 1))
    (sSeq (sSet 4 (mOp gIx (mOp gIx (mVar 0) (mUn gNeg (mRet (.int 1)))) (mRet (.int 0))))
    (sSeq (sSet 5 (mRet (.int 1)))
    (sSeq (sFor (tTp 2 (tCons' (tN 6) (tCons' (tN 7) tNil'))) (mSeq (mVar 0)) L0__moved_row)
    (sSeq (sSet 9 (mLc [8] (tN 8) (mRng1 (mCons (mOp gAdd (mVar 4) (mRet (.int 1))) mNil)) mYes L1__moved_row))
    (sSeq (sSet 10 (mOp gRepL (mLst (mCons (mRet (.int 0)) mNil)) (mOp gAdd (mVar 4) (mRet (.int 1)))))
    (sSeq (sFor (tTp 2 (tCons' (tN 8) (tCons' (tN 7) tNil'))) (mSeq (mVar 0)) L2__moved_row)
    (sSeq (sFor (tN 11) (mRng1 (mCons (mVar 4) mNil)) L4__moved_row)
    (sRet (mLc [8] (tN 8) (mRng1 (mCons (mOp gAdd (mVar 4) (mRet (.int 1))) mNil)) mYes L5__moved_row))))))))))
def F__moved_row : List D → Sto → Option (R D) := fnOf 12 m__moved_row
def m__law_is_number : MS :=
    (sRet (mAndV (mCall F__law_is_int (mCons (mVar 0) mNil)) (mOp gEq (mVar 0) (mVar 1))))
def F__law_is_number : List D → Sto → Option (R D) := fnOf 2 m__law_is_number
def m__law_frac : MS :=
    (sSeq (sSet 2 (mCall F__law_gcd (mCons (mVar 0) (mCons (mVar 1) mNil))))
    (sSeq (sIf (mT (mOp gLt (mVar 1) (mRet (.int 0)))) (sSet 2 (mUn gNeg (mVar 2))) sNil)
    (sRet (mTup (mCons (mOp gDiv (mVar 0) (mVar 2)) (mCons (mOp gDiv (mVar 1) (mVar 2)) mNil))))))
def F__law_frac : List D → Sto → Option (R D) := fnOf 3 m__law_frac
def m__law_const : MS :=
    (sRet (mCall F__law_tidy (mCons (mDct1 (mOp gRepT (mTup (mCons (mRet (.int 0)) mNil)) (mVar 0)) (mVar 1)) mNil)))
def F__law_const : List D → Sto → Option (R D) := fnOf 2 m__law_const
def L0__collected : MS := (sEx (mCall F__add_term (mCons (mVar 1) (mCons (mVar 2) (mCons (mVar 3) mNil)))))
def m__collected : MS :=
    (sSeq (sSet 1 mDct0)
    (sSeq (sFor (tTp 2 (tCons' (tN 2) (tCons' (tN 3) tNil'))) (mSeq (mVar 0)) L0__collected)
    (sRet (mCall F__from_table (mCons (mVar 1) mNil)))))
def F__collected : List D → Sto → Option (R D) := fnOf 4 m__collected
def L0__moved_along : MS := (sSeq (sSet 6 (mCall F__with_exponent (mCons (mVar 4) (mCons (mVar 1) (mCons (mRet (.int 0)) mNil)))))
    (sEx (mApp (mSetd (mVar 3) (mCons (mVar 6) (mCons (mLst mNil) mNil))) (mTup (mCons (mOp gIx (mVar 4) (mVar 1)) (mCons (mVar 5) mNil))))))
def L1__moved_along : MS := (sDPut (mVar 7) (mCall F__with_exponent (mCons (mVar 6) (mCons (mVar 1) (mCons (mVar 8) mNil)))) (mTup (mCons (mVar 9) (mCons (mVar 10) mNil))))
def L2__moved_along : MS := (sFor (tTp 3 (tCons' (tN 8) (tCons' (tN 9) (tCons' (tN 10) tNil')))) (mSeq (mCall F__moved_row (mCons (mDGet (mVar 3) (mVar 6)) (mCons (mVar 2) mNil)))) L1__moved_along)
def m__moved_along : MS :=
    (sSeq (sSet 3 mDct0)
    (sSeq (sFor (tTp 2 (tCons' (tN 4) (tCons' (tN 5) tNil'))) (mSeq (mVar 0)) L0__moved_along)
    (sSeq (sSet 7 mDct0)
    (sSeq (sForD 3 (sFor (tN 6) (mKeysL (mVar 3)) L2__moved_along))
    (sRet (mCall F__from_table (mCons (mVar 7) mNil)))))))
def F__moved_along : List D → Sto → Option (R D) := fnOf 11 m__moved_along
def m__law_add : MS :=
    (sRet (mCall F__law_frac (mCons (mOp gAdd (mOp gMul (mOp gIx (mVar 0) (mRet (.int 0))) (mOp gIx (mVar 1) (mRet (.int 1)))) (mOp gMul (mOp gIx (mVar 1) (mRet (.int 0))) (mOp gIx (mVar 0) (mRet (.int 1))))) (mCons (mOp gMul (mOp gIx (mVar 0) (mRet (.int 1))) (mOp gIx (mVar 1) (mRet (.int 1)))) mNil))))
def F__law_add : List D → Sto → Option (R D) := fnOf 2 m__law_add
def m__law_mul : MS :=
    (sRet (mCall F__law_frac (mCons (mOp gMul (mOp gIx (mVar 0) (mRet (.int 0))) (mOp gIx (mVar 1) (mRet (.int 0)))) (mCons (mOp gMul (mOp gIx (mVar 0) (mRet (.int 1))) (mOp gIx (mVar 1) (mRet (.int 1)))) mNil))))
def F__law_mul : List D → Sto → Option (R D) := fnOf 2 m__law_mul
def m__law_same (Fr : List D → Sto → Option (R D)) : MS :=
    (sSeq (sIf (mT (mBi gIsi (mCons (mVar 1) (mCons (mRet (.ty "tuple")) mNil)))) (sSeq (sIf (mOr (mNotB (mT (mBi gIsi (mCons (mVar 0) (mCons (mRet (.ty "tuple")) mNil))))) (mT (mOp gNe (mBi gLen (mCons (mVar 0) mNil)) (mBi gLen (mCons (mVar 1) mNil))))) (sRet (mRet (.bl false))) sNil)
    (sRet (mOp gEq (mBi gLen (mCons (mLc [2] (tN 2) (mRng1 (mCons (mBi gLen (mCons (mVar 1) mNil)) mNil)) (mNotB (mTru (mCall Fr (mCons (mOp gIx (mVar 0) (mVar 2)) (mCons (mOp gIx (mVar 1) (mVar 2)) mNil))))) (mVar 2)) mNil)) (mRet (.int 0))))) sNil)
    (sSeq (sIf (mT (mBi gIsi (mCons (mVar 1) (mCons (mRet (.ty "list")) mNil)))) (sSeq (sIf (mOr (mNotB (mT (mBi gIsi (mCons (mVar 0) (mCons (mRet (.ty "list")) mNil))))) (mT (mOp gNe (mBi gLen (mCons (mVar 0) mNil)) (mBi gLen (mCons (mVar 1) mNil))))) (sRet (mRet (.bl false))) sNil)
    (sRet (mOp gEq (mBi gLen (mCons (mLc [2] (tN 2) (mRng1 (mCons (mBi gLen (mCons (mVar 1) mNil)) mNil)) (mNotB (mTru (mCall Fr (mCons (mOp gIx (mVar 0) (mVar 2)) (mCons (mOp gIx (mVar 1) (mVar 2)) mNil))))) (mVar 2)) mNil)) (mRet (.int 0))))) sNil)
    (sSeq (sIf (mT (mOp gIs (mVar 1) (mRet .non))) (sRet (mOp gIs (mVar 0) (mRet .non))) sNil)
    (sSeq (sIf (mT (mOp gIs (mVar 1) (mRet (.bl true)))) (sRet (mOp gIs (mVar 0) (mRet (.bl true)))) sNil)
    (sSeq (sIf (mT (mOp gIs (mVar 1) (mRet (.bl false)))) (sRet (mOp gIs (mVar 0) (mRet (.bl false)))) sNil)
    (sSeq (sIf (mT (mBi gIsi (mCons (mVar 1) (mCons (mRet (.ty "int")) mNil)))) (sRet (mCall F__law_is_number (mCons (mVar 0) (mCons (mVar 1) mNil)))) sNil)
    (sRet (mCall F__law_is_text (mCons (mVar 0) (mCons (mVar 1) mNil))))))))))
def F__law_same : Nat → List D → Sto → Option (R D)
  | 0 => fun _ _ => none
  | k + 1 => fnOf 3 (m__law_same (F__law_same k))
def m__law_small : MS :=
    (sRet (mCall F__law_frac (mCons (mOp gSub (mOp gMod (mVar 0) (mRet (.int 19))) (mRet (.int 9))) (mCons (mOp gAdd (mRet (.int 1)) (mOp gMod (mOp gDiv (mVar 0) (mRet (.int 19))) (mRet (.int 4)))) mNil))))
def F__law_small : List D → Sto → Option (R D) := fnOf 1 m__law_small
def L0_moved : MS := (sIf (mT (mOp gNe (mOp gIx (mOp gIx (mVar 2) (mVar 3)) (mRet (.int 0))) (mRet (.int 0)))) (sSet 1 (mCall F__moved_along (mCons (mVar 1) (mCons (mVar 3) (mCons (mOp gIx (mVar 2) (mVar 3)) mNil))))) sNil)
def m_moved : MS :=
    (sSeq (sFor (tN 3) (mRng1 (mCons (mVar 0) mNil)) L0_moved)
    (sRet (mVar 1)))
def F_moved : List D → Sto → Option (R D) := fnOf 4 m_moved
def L0_fixed : MS := (sSeq (sSet 7 (mCall F_times (mCons (mVar 6) (mCons (mCall F_power (mCons (mVar 3) (mCons (mOp gIx (mVar 5) (mVar 2)) mNil))) mNil))))
    (sEx (mApp (mVar 4) (mTup (mCons (mOp gAdd (mSxH (mVar 5) (mVar 2)) (mSxL (mVar 5) (mOp gAdd (mVar 2) (mRet (.int 1))))) (mCons (mVar 7) mNil))))))
def m_fixed : MS :=
    (sSeq (sSet 4 (mLst mNil))
    (sSeq (sFor (tTp 2 (tCons' (tN 5) (tCons' (tN 6) tNil'))) (mSeq (mVar 1)) L0_fixed)
    (sRet (mCall F__collected (mCons (mVar 4) mNil)))))
def F_fixed : List D → Sto → Option (R D) := fnOf 8 m_fixed
def L0__law_power : MS := (sSet 2 (mCall F__law_mul (mCons (mVar 2) (mCons (mVar 0) mNil))))
def m__law_power : MS :=
    (sSeq (sSet 2 (mTup (mCons (mRet (.int 1)) (mCons (mRet (.int 1)) mNil))))
    (sSeq (sFor (tN 3) (mRng1 (mCons (mVar 1) mNil)) L0__law_power)
    (sRet (mVar 2))))
def F__law_power : List D → Sto → Option (R D) := fnOf 4 m__law_power
def m__law_put : MS :=
    (sDPut (mVar 0) (mVar 1) (mCall F__law_add (mCons (mDGet2 (mVar 0) (mVar 1) (mTup (mCons (mRet (.int 0)) (mCons (mRet (.int 1)) mNil)))) (mCons (mVar 2) mNil))))
def F__law_put : List D → Sto → Option (R D) := fnOf 3 m__law_put
def L0__law_point : M D := (mCall F__law_small (mCons (mOp gIx (mVar 1) (mOp gMod (mOp gAdd (mVar 2) (mVar 3)) (mBi gLen (mCons (mVar 1) mNil)))) mNil))
def m__law_point : MS :=
    (sRet (mBi gTupOf (mCons (mLc [3] (tN 3) (mRng1 (mCons (mVar 0) mNil)) mYes L0__law_point) mNil)))
def F__law_point : List D → Sto → Option (R D) := fnOf 4 m__law_point
def L0__law_padd : MS := (sEx (mCall F__law_put (mCons (mVar 2) (mCons (mVar 3) (mCons (mVar 4) mNil)))))
def m__law_padd : MS :=
    (sSeq (sSet 2 mDct0)
    (sSeq (sFor (tTp 2 (tCons' (tN 3) (tCons' (tN 4) tNil'))) (mSeq (mOp gAdd (mVar 0) (mVar 1))) L0__law_padd)
    (sRet (mCall F__law_tidy (mCons (mVar 2) mNil)))))
def F__law_padd : List D → Sto → Option (R D) := fnOf 5 m__law_padd
def L0__law_pmul : M D := (mOp gAdd (mOp gIx (mVar 3) (mVar 7)) (mOp gIx (mVar 5) (mVar 7)))
def L1__law_pmul : MS := (sEx (mCall F__law_put (mCons (mVar 2) (mCons (mBi gTupOf (mCons (mLc [7] (tN 7) (mRng1 (mCons (mBi gLen (mCons (mVar 3) mNil)) mNil)) mYes L0__law_pmul) mNil)) (mCons (mCall F__law_mul (mCons (mVar 4) (mCons (mVar 6) mNil))) mNil)))))
def L2__law_pmul : MS := (sFor (tTp 2 (tCons' (tN 5) (tCons' (tN 6) tNil'))) (mSeq (mVar 1)) L1__law_pmul)
def m__law_pmul : MS :=
    (sSeq (sSet 2 mDct0)
    (sSeq (sFor (tTp 2 (tCons' (tN 3) (tCons' (tN 4) tNil'))) (mSeq (mVar 0)) L2__law_pmul)
    (sRet (mCall F__law_tidy (mCons (mVar 2) mNil)))))
def F__law_pmul : List D → Sto → Option (R D) := fnOf 8 m__law_pmul
def L0__law_fixed : MS := (sEx (mCall F__law_put (mCons (mVar 3) (mCons (mOp gAdd (mSxH (mVar 4) (mVar 1)) (mSxL (mVar 4) (mOp gAdd (mVar 1) (mRet (.int 1))))) (mCons (mCall F__law_mul (mCons (mVar 5) (mCons (mCall F__law_power (mCons (mVar 2) (mCons (mOp gIx (mVar 4) (mVar 1)) mNil))) mNil))) mNil)))))
def m__law_fixed : MS :=
    (sSeq (sSet 3 mDct0)
    (sSeq (sFor (tTp 2 (tCons' (tN 4) (tCons' (tN 5) tNil'))) (mSeq (mVar 0)) L0__law_fixed)
    (sRet (mCall F__law_tidy (mCons (mVar 3) mNil)))))
def F__law_fixed : List D → Sto → Option (R D) := fnOf 6 m__law_fixed
def L0__law_poly : M D := (mOp gMod (mOp gDiv (mVar 7) (mOp gAdd (mRet (.int 3)) (mOp gMul (mRet (.int 7)) (mVar 9)))) (mOp gAdd (mVar 4) (mRet (.int 1))))
def L1__law_poly : MS := (sSeq (sSet 7 (mOp gIx (mVar 1) (mOp gMod (mOp gAdd (mOp gAdd (mVar 2) (mRet (.int 1))) (mVar 6)) (mBi gLen (mCons (mVar 1) mNil)))))
    (sSeq (sSet 8 (mBi gTupOf (mCons (mLc [9] (tN 9) (mRng1 (mCons (mVar 0) mNil)) mYes L0__law_poly) mNil)))
    (sEx (mCall F__law_put (mCons (mVar 5) (mCons (mVar 8) (mCons (mCall F__law_small (mCons (mOp gAdd (mOp gDiv (mVar 7) (mRet (.int 2))) (mOp gMul (mRet (.int 31)) (mVar 6))) mNil)) mNil)))))))
def m__law_poly : MS :=
    (sSeq (sSet 5 mDct0)
    (sSeq (sFor (tN 6) (mRng1 (mCons (mOp gMod (mOp gIx (mVar 1) (mOp gMod (mVar 2) (mBi gLen (mCons (mVar 1) mNil)))) (mOp gAdd (mVar 3) (mRet (.int 1)))) mNil)) L1__law_poly)
    (sRet (mCall F__law_tidy (mCons (mVar 5) mNil)))))
def F__law_poly : List D → Sto → Option (R D) := fnOf 10 m__law_poly
def L0__law_ppow : MS := (sSet 3 (mCall F__law_pmul (mCons (mVar 3) (mCons (mVar 1) mNil))))
def m__law_ppow : MS :=
    (sSeq (sSet 3 (mCall F__law_const (mCons (mVar 0) (mCons (mTup (mCons (mRet (.int 1)) (mCons (mRet (.int 1)) mNil))) mNil))))
    (sSeq (sFor (tN 4) (mRng1 (mCons (mVar 2) mNil)) L0__law_ppow)
    (sRet (mVar 3))))
def F__law_ppow : List D → Sto → Option (R D) := fnOf 5 m__law_ppow
def L0__law_moved : MS := (sSet 6 (mCall F__law_pmul (mCons (mVar 6) (mCons (mCall F__law_ppow (mCons (mVar 0) (mCons (mCall F__law_padd (mCons (mCall F__law_var (mCons (mVar 0) (mCons (mVar 7) mNil))) (mCons (mCall F__law_const (mCons (mVar 0) (mCons (mOp gIx (mVar 2) (mVar 7)) mNil))) mNil))) (mCons (mOp gIx (mVar 4) (mVar 7)) mNil)))) mNil))))
def L1__law_moved : MS := (sSeq (sSet 6 (mCall F__law_const (mCons (mVar 0) (mCons (mVar 5) mNil))))
    (sSeq (sFor (tN 7) (mRng1 (mCons (mVar 0) mNil)) L0__law_moved)
    (sSet 3 (mCall F__law_padd (mCons (mVar 3) (mCons (mVar 6) mNil))))))
def m__law_moved : MS :=
    (sSeq (sSet 3 (mTup mNil))
    (sSeq (sFor (tTp 2 (tCons' (tN 4) (tCons' (tN 5) tNil'))) (mSeq (mVar 1)) L1__law_moved)
    (sRet (mVar 3))))
def F__law_moved : List D → Sto → Option (R D) := fnOf 8 m__law_moved
def L0_law : MS := (sSeq (sSet 2 (mCall F__law_draws (mCons (mCall F__law_cell (mCons (mVar 0) (mCons (mVar 1) mNil))) (mCons (mRet (.int 16)) mNil))))
    (sSeq (sSet 3 (mOp gAdd (mRet (.int 1)) (mOp gMod (mOp gIx (mVar 2) (mRet (.int 0))) (mRet (.int 4)))))
    (sSeq (sSet 4 (mCall F__law_poly (mCons (mVar 3) (mCons (mVar 2) (mCons (mRet (.int 1)) (mCons (mRet (.int 5)) (mCons (mRet (.int 3)) mNil)))))))
    (sSeq (sSet 5 (mCall F__law_point (mCons (mVar 3) (mCons (mVar 2) (mCons (mRet (.int 8)) mNil)))))
    (sSeq (sIf (mT (mOp gEq (mOp gMod (mOp gIx (mVar 2) (mRet (.int 13))) (mRet (.int 5))) (mRet (.int 1)))) (sSet 5 (mOp gRepT (mTup (mCons (mTup (mCons (mRet (.int 0)) (mCons (mRet (.int 1)) mNil))) mNil)) (mVar 3))) sNil)
    (sSeq (sIf (mNotB (mTru (mCall (F__law_same 40) (mCons (mCall F_moved (mCons (mVar 3) (mCons (mVar 4) (mCons (mVar 5) mNil)))) (mCons (mCall F__law_moved (mCons (mVar 3) (mCons (mVar 4) (mCons (mVar 5) mNil)))) mNil))))) (sRet (mRet (.bl false))) sNil)
    (sSeq (sSet 6 (mOp gMod (mOp gIx (mVar 2) (mRet (.int 14))) (mVar 3)))
    (sSeq (sSet 7 (mOp gIx (mLst (mCons (mCall F__law_small (mCons (mOp gIx (mVar 2) (mRet (.int 15))) mNil)) (mCons (mTup (mCons (mRet (.int 0)) (mCons (mRet (.int 1)) mNil))) mNil))) (mBi gInt (mCons (mOp gEq (mOp gMod (mOp gIx (mVar 2) (mRet (.int 13))) (mRet (.int 7))) (mRet (.int 2))) mNil))))
    (sIf (mAnd (mT (mOp gGt (mVar 3) (mRet (.int 1)))) (mNotB (mTru (mCall (F__law_same 40) (mCons (mCall F_fixed (mCons (mVar 3) (mCons (mVar 4) (mCons (mVar 6) (mCons (mVar 7) mNil))))) (mCons (mCall F__law_fixed (mCons (mVar 4) (mCons (mVar 6) (mCons (mVar 7) mNil)))) mNil)))))) (sRet (mRet (.bl false))) sNil)))))))))
def m_law : MS :=
    (sSeq (sFor (tN 1) (mRng1 (mCons (mRet (.int 2)) mNil)) L0_law)
    (sRet (mRet (.bl true))))
def F_law : List D → Sto → Option (R D) := fnOf 8 m_law
section
variable {P : Program} {w : World} {K : PySem.W.Frag} {mg : Str → Option Value} {base : Heap} {a : Adr}
theorem ok_number (T : Txt K mg a) : FnOk P w K mg base (L2.CX P w) 1 a.f_number a.d_number ["a", "b"] (spF K (ecOf a) 2 F_number) := by
  refine fn_ok (m := m_number) (k := 0) T.F_number sc_number rfl fun cdv A outer s H E hr => ?_
  unfold m_number
  exact (xs_cons (x_if (xt_cmp opS_eq (x_var 1) x_int) (xs_one (x_raise rfl (takes_of rfl rfl rfl rfl) (pmk_own PySem.F.excBase_ValueError T.x_BadNumber T.g_BadNumber T.k_BadNumber (raises_own T.s_BadNumber T.t_BadNumber) rfl) (ec_BadNumber a))) xs_nil)
    (xs_cons (x_set 2 sc_number.nd (x_biF callS_gcd T.z_gcd (xa_cons (x_var 0) (xa_cons (x_var 1) xa_nil))))
    (xs_cons (x_if (xt_cmp opS_lt (x_var 1) x_int) (xs_one (x_set 2 sc_number.nd (x_neg (x_var 2)))) xs_nil)
    (xs_one (x_ret (x_tup (xa_cons (x_bin opS_div (x_var 0) (x_var 2)) (xa_cons (x_bin opS_div (x_var 1) (x_var 2)) xa_nil))))))))
theorem ok_loose_plus (T : Txt K mg a) : FnOk P w K mg base (L2.CX P w) 1 a.f_loose_plus a.d_loose_plus ["x", "y"] (spF K (ecOf a) 2 F_loose_plus) := by
  refine fn_ok (m := m_loose_plus) (k := 0) T.F_loose_plus sc_loose_plus rfl fun cdv A outer s H E hr => ?_
  unfold m_loose_plus
  exact (xs_cons (x_asg (vs := [2, 3]) (x_var 0) (pg_tup rfl (pgs_cons (pg_name (i := 2) sc_loose_plus.nd rfl (by first | exact Or.inl rfl | exact Or.inr rfl)) (pgs_cons (pg_name (i := 3) sc_loose_plus.nd rfl (by first | exact Or.inl rfl | exact Or.inr rfl)) pgs_nil))) (tgs_tup (tgs_cons tgs_name (tgs_cons tgs_name tgs_nil))))
    (xs_cons (x_asg (vs := [4, 5]) (x_var 1) (pg_tup rfl (pgs_cons (pg_name (i := 4) sc_loose_plus.nd rfl (by first | exact Or.inl rfl | exact Or.inr rfl)) (pgs_cons (pg_name (i := 5) sc_loose_plus.nd rfl (by first | exact Or.inl rfl | exact Or.inr rfl)) pgs_nil))) (tgs_tup (tgs_cons tgs_name (tgs_cons tgs_name tgs_nil))))
    (xs_cons (x_if (xt_cmp opS_eq (x_var 3) (x_var 5)) (xs_one (x_ret (x_tup (xa_cons (x_bin opS_add (x_var 2) (x_var 4)) (xa_cons (x_var 3) xa_nil))))) xs_nil)
    (xs_cons (x_set 6 sc_loose_plus.nd (x_biF callS_lcm T.z_lcm (xa_cons (x_var 3) (xa_cons (x_var 5) xa_nil))))
    (xs_one (x_ret (x_tup (xa_cons (x_bin opS_add (x_bin opS_mul (x_var 2) (x_bin opS_div (x_var 6) (x_var 3))) (x_bin opS_mul (x_var 4) (x_bin opS_div (x_var 6) (x_var 5)))) (xa_cons (x_var 6) xa_nil)))))))))
theorem ok_times (T : Txt K mg a) : FnOk P w K mg base (L2.CX P w) 1 a.f_times a.d_times ["x", "y"] (spF K (ecOf a) 2 F_times) := by
  refine fn_ok (m := m_times) (k := 0) T.F_times sc_times rfl fun cdv A outer s H E hr => ?_
  unfold m_times
  exact (xs_cons (x_asg (vs := [2, 3]) (x_var 0) (pg_tup rfl (pgs_cons (pg_name (i := 2) sc_times.nd rfl (by first | exact Or.inl rfl | exact Or.inr rfl)) (pgs_cons (pg_name (i := 3) sc_times.nd rfl (by first | exact Or.inl rfl | exact Or.inr rfl)) pgs_nil))) (tgs_tup (tgs_cons tgs_name (tgs_cons tgs_name tgs_nil))))
    (xs_cons (x_asg (vs := [4, 5]) (x_var 1) (pg_tup rfl (pgs_cons (pg_name (i := 4) sc_times.nd rfl (by first | exact Or.inl rfl | exact Or.inr rfl)) (pgs_cons (pg_name (i := 5) sc_times.nd rfl (by first | exact Or.inl rfl | exact Or.inr rfl)) pgs_nil))) (tgs_tup (tgs_cons tgs_name (tgs_cons tgs_name tgs_nil))))
    (xs_cons (x_set 6 sc_times.nd (x_biF callS_gcd T.z_gcd (xa_cons (x_var 2) (xa_cons (x_var 5) xa_nil))))
    (xs_cons (x_set 7 sc_times.nd (x_biF callS_gcd T.z_gcd (xa_cons (x_var 4) (xa_cons (x_var 3) xa_nil))))
    (xs_one (x_ret (x_tup (xa_cons (x_bin opS_mul (x_bin opS_div (x_var 2) (x_var 6)) (x_bin opS_div (x_var 4) (x_var 7))) (xa_cons (x_bin opS_mul (x_bin opS_div (x_var 3) (x_var 7)) (x_bin opS_div (x_var 5) (x_var 6))) xa_nil)))))))))
theorem ok_whole_power (T : Txt K mg a) : FnOk P w K mg base (L2.CX P w) 1 a.f_whole_power a.d_whole_power ["a", "k"] (spF K (ecOf a) 2 F_whole_power) := by
  refine fn_ok (m := m_whole_power) (k := 0) T.F_whole_power sc_whole_power rfl fun cdv A outer s H E hr => ?_
  unfold m_whole_power
  exact (xs_cons (x_set 2 sc_whole_power.nd x_int)
    (xs_cons (x_for (vs := [3]) (passes_of rfl) rfl (xi_rev1 (x_bits (x_var 1)) T.z_reversed T.z_range) (pg_name (i := 3) sc_whole_power.nd rfl (by first | exact Or.inl rfl | exact Or.inr rfl)) tgs_name (xs_cons (x_set 2 sc_whole_power.nd (x_bin opS_mul (x_var 2) (x_var 2)))
    (xs_one (x_if (x_truth (x_bin opS_and (x_bin opS_shr (x_var 1) (x_var 3)) x_int)) (xs_one (x_set 2 sc_whole_power.nd (x_bin opS_mul (x_var 2) (x_var 0)))) xs_nil))))
    (xs_one (x_ret (x_var 2)))))
theorem ok__with_exponent (T : Txt K mg a) : FnOk P w K mg base (L2.CX P w) 1 a.f__with_exponent a.d__with_exponent ["exponents", "k", "e"] (spF K (ecOf a) 3 F__with_exponent) := by
  refine fn_ok (m := m__with_exponent) (k := 0) T.F__with_exponent sc__with_exponent rfl fun cdv A outer s H E hr => ?_
  unfold m__with_exponent
  exact (xs_one (x_ret (x_bin opS_add (x_bin opS_add (x_sxH (x_var 0) (x_var 1)) (x_tup (xa_cons (x_var 2) xa_nil))) (x_sxL (x_var 0) (x_bin opS_add (x_var 1) x_int)))))
theorem ok__law_cell (T : Txt K mg a) : FnOk P w K mg base (L2.CX P w) 1 a.f__law_cell a.d__law_cell ["script", "k"] (spF K (ecOf a) 2 F__law_cell) := by
  refine fn_ok (m := m__law_cell) (k := 0) T.F__law_cell sc__law_cell rfl fun cdv A outer s H E hr => ?_
  unfold m__law_cell
  exact (xs_cons (x_if (xt_cmp opS_lt (x_var 1) (x_biB callS_len T.z_len (by decide +kernel) (xa_cons (x_var 0) xa_nil))) (xs_one (x_ret (x_ix (x_var 0) (x_var 1)))) xs_nil)
    (xs_one (x_ret x_int)))
theorem ok__law_draws (T : Txt K mg a) : FnOk P w K mg base (L2.CX P w) 1 a.f__law_draws a.d__law_draws ["cell", "count"] (spF K (ecOf a) 2 F__law_draws) := by
  refine fn_ok (m := m__law_draws) (k := 0) T.F__law_draws sc__law_draws rfl fun cdv A outer s H E hr => ?_
  unfold m__law_draws
  exact (xs_cons (x_set 2 sc__law_draws.nd (x_lst xa_nil))
    (xs_cons (x_set 3 sc__law_draws.nd (x_var 0))
    (xs_cons (x_for (vs := [4]) (passes_of rfl) rfl (xi_rng1 (xa_cons (x_var 1) xa_nil) T.z_range) (pg_name (i := 4) sc__law_draws.nd rfl (by first | exact Or.inl rfl | exact Or.inr rfl)) tgs_name (xs_one (x_if (XW.xt (xw_and (xt_cmp opS_ge (x_var 0) (x_bin opS_pow x_int x_int)) (xw_and1 (xt_cmp opS_gt (x_var 3) x_int)))) (xs_cons (x_ex (x_app (x_var 2) (x_bin opS_mod (x_biT callS_int T.z_int (by decide +kernel) (xa_cons (x_var 3) xa_nil)) x_int)))
    (xs_one (x_set 3 sc__law_draws.nd (x_bin opS_div (x_var 3) x_int)))) (xs_cons (x_set 5 sc__law_draws.nd (x_bin opS_mod (x_biT callS_int T.z_int (by decide +kernel) (xa_cons (x_bin opS_add (x_bin opS_mul (x_var 0) x_int) (x_bin opS_mul (x_bin opS_add (x_var 4) x_int) x_int)) xa_nil)) x_int))
    (xs_cons (x_set 5 sc__law_draws.nd (x_bin opS_mod (x_biT callS_int T.z_int (by decide +kernel) (xa_cons (x_bin opS_add (x_bin opS_add (x_bin opS_mul (x_var 5) (x_var 5)) (x_bin opS_mul (x_var 5) x_int)) (x_bin opS_mul (x_var 4) x_int)) xa_nil)) x_int))
    (xs_cons (x_set 5 sc__law_draws.nd (x_bin opS_mod (x_biT callS_int T.z_int (by decide +kernel) (xa_cons (x_bin opS_add (x_bin opS_add (x_bin opS_mul (x_var 5) (x_var 5)) (x_var 0)) (x_bin opS_mul x_int (x_var 4))) xa_nil)) x_int))
    (xs_one (x_ex (x_app (x_var 2) (x_bin opS_mod (x_bin opS_div (x_var 5) x_int) x_int))))))))))
    (xs_one (x_ret (x_var 2))))))
theorem ok__law_is_int (T : Txt K mg a) : FnOk P w K mg base (L2.CX P w) 1 a.f__law_is_int a.d__law_is_int ["x"] (spF K (ecOf a) 1 F__law_is_int) := by
  refine fn_ok (m := m__law_is_int) (k := 0) T.F__law_is_int sc__law_is_int rfl fun cdv A outer s H E hr => ?_
  unfold m__law_is_int
  exact (xs_one (x_ret (x_andV (x_biB callS_isi T.z_isinstance (by decide +kernel) (xa_cons (x_var 0) (xa_cons (x_ty T.z_int (by decide +kernel)) xa_nil))) (x_one (x_not (x_biB callS_isi T.z_isinstance (by decide +kernel) (xa_cons (x_var 0) (xa_cons (x_ty T.z_bool (by decide +kernel)) xa_nil))))))))
theorem ok__law_is_text (T : Txt K mg a) : FnOk P w K mg base (L2.CX P w) 1 a.f__law_is_text a.d__law_is_text ["x", "due"] (spF K (ecOf a) 2 F__law_is_text) := by
  refine fn_ok (m := m__law_is_text) (k := 0) T.F__law_is_text sc__law_is_text rfl fun cdv A outer s H E hr => ?_
  unfold m__law_is_text
  exact (xs_one (x_ret (x_andV (x_biB callS_isi T.z_isinstance (by decide +kernel) (xa_cons (x_var 0) (xa_cons (x_ty T.z_str (by decide +kernel)) xa_nil))) (x_one (x_cmp opS_eq (x_var 0) (x_var 1))))))
theorem ok__law_gcd (T : Txt K mg a) : FnOk P w K mg base (L2.CX P w) 1 a.f__law_gcd a.d__law_gcd ["a", "b"] (spF K (ecOf a) 2 F__law_gcd) := by
  refine fn_ok (m := m__law_gcd) (k := 0) T.F__law_gcd sc__law_gcd rfl fun cdv A outer s H E hr => ?_
  unfold m__law_gcd
  exact (xs_cons (x_set 0 sc__law_gcd.nd (x_biB callS_abs T.z_abs (by decide +kernel) (xa_cons (x_var 0) xa_nil)))
    (xs_cons (x_set 1 sc__law_gcd.nd (x_biB callS_abs T.z_abs (by decide +kernel) (xa_cons (x_var 1) xa_nil)))
    (xs_cons (x_while (passes_of rfl) (xt_cmp opS_ne (x_var 1) x_int) (xs_one (x_par (i := 0) (j := 1) rfl sc__law_gcd.nd (xa_cons (x_var 1) (xa_cons (x_bin opS_mod (x_biT callS_int T.z_int (by decide +kernel) (xa_cons (x_var 0) xa_nil)) (x_var 1)) xa_nil)))))
    (xs_one (x_ret (x_var 0))))))
theorem ok__law_tidy (T : Txt K mg a) : FnOk P w K mg base (L2.CX P w) 1 a.f__law_tidy a.d__law_tidy ["sums"] (spF K (ecOf a) 1 F__law_tidy) := by
  refine fn_ok (m := m__law_tidy) (k := 0) T.F__law_tidy sc__law_tidy rfl fun cdv A outer s H E hr => ?_
  unfold m__law_tidy
  exact (xs_one (x_ret (x_biT callS_tuple T.z_tuple (by decide +kernel) (xa_cons (x_lc (own := [("e", 1)]) rfl sc__law_tidy.nd (xi_seq (x_biB (callS_sortD rfl (r65 hr)) T.z_sorted (by decide +kernel) (xa_cons (x_var 0) xa_nil))) (blkOk_by (N := ["sums", "e"]) (sc := defScope s__law_tidy) (by first | decide +kernel | rfl)) (fun _ _ _ _ _ => (pg_name (i := 1) sc__law_tidy.nd rfl (by first | exact Or.inl rfl | exact Or.inr rfl))) tgs_name (fun _ _ _ _ _ => (xts_one (xt_cmp opS_ne (x_ix (x_dget (ru hr) (x_var 0) (x_var 1)) x_int) x_int))) (fun _ _ _ _ _ => (x_tup (xa_cons (x_var 1) (xa_cons (x_dget (ru hr) (x_var 0) (x_var 1)) xa_nil))))) xa_nil))))
theorem ok__law_var (T : Txt K mg a) : FnOk P w K mg base (L2.CX P w) 1 a.f__law_var a.d__law_var ["n", "k"] (spF K (ecOf a) 2 F__law_var) := by
  refine fn_ok (m := m__law_var) (k := 0) T.F__law_var sc__law_var rfl fun cdv A outer s H E hr => ?_
  unfold m__law_var
  exact (xs_one (x_ret (x_tup (xa_cons (x_tup (xa_cons (x_biT callS_tuple T.z_tuple (by decide +kernel) (xa_cons (x_lc (own := [("at", 2)]) rfl sc__law_var.nd (xi_rng1 (xa_cons (x_var 0) xa_nil) T.z_range) (blkOk_by (N := ["n", "k", "at"]) (sc := defScope s__law_var) (by first | decide +kernel | rfl)) (fun _ _ _ _ _ => (pg_name (i := 2) sc__law_var.nd rfl (by first | exact Or.inl rfl | exact Or.inr rfl))) tgs_name (fun _ _ _ _ _ => xts_nil) (fun _ _ _ _ _ => (x_biT callS_int T.z_int (by decide +kernel) (xa_cons (x_cmp opS_eq (x_var 2) (x_var 1)) xa_nil)))) xa_nil)) (xa_cons (x_tup (xa_cons x_int (xa_cons x_int xa_nil))) xa_nil))) xa_nil))))
theorem ok_power (T : Txt K mg a) : FnOk P w K mg base (L2.CX P w) 2 a.f_power a.d_power ["x", "k"] (spF K (ecOf a) 2 F_power) := by
  refine fn_ok (m := m_power) (k := 1) T.F_power sc_power rfl fun cdv A outer s H E hr => ?_
  unfold m_power
  exact (xs_one (x_ret (x_tup (xa_cons (x_call (takes_of rfl rfl rfl rfl) (ok_whole_power T) (hr.mono (by decide)) T.g_whole_power T.F_whole_power.kp T.b_whole_power (xa_cons (x_ix (x_var 0) x_int) (xa_cons (x_var 1) xa_nil)) (hms := (mCons_len (mCons_len mNilL)))) (xa_cons (x_call (takes_of rfl rfl rfl rfl) (ok_whole_power T) (hr.mono (by decide)) T.g_whole_power T.F_whole_power.kp T.b_whole_power (xa_cons (x_ix (x_var 0) x_int) (xa_cons (x_var 1) xa_nil)) (hms := (mCons_len (mCons_len mNilL)))) xa_nil)))))
theorem ok__add_term (T : Txt K mg a) : FnOk P w K mg base (L2.CX P w) 2 a.f__add_term a.d__add_term ["table", "exponents", "coefficient"] (spF K (ecOf a) 3 F__add_term) := by
  refine fn_ok (m := m__add_term) (k := 1) T.F__add_term sc__add_term rfl fun cdv A outer s H E hr => ?_
  unfold m__add_term
  exact (xs_cons (x_if (xt_din (ru hr) (x_var 1) (x_var 0)) (xs_one (x_set 2 sc__add_term.nd (x_call (takes_of rfl rfl rfl rfl) (ok_loose_plus T) (hr.mono (by decide)) T.g_loose_plus T.F_loose_plus.kp T.b_loose_plus (xa_cons (x_dget (ru hr) (x_var 0) (x_var 1)) (xa_cons (x_var 2) xa_nil)) (hms := (mCons_len (mCons_len mNilL)))))) xs_nil)
    (xs_one (x_dput (ru hr) (x_var 0) (x_var 1) (x_var 2))))
theorem ok__from_table (T : Txt K mg a) : FnOk P w K mg base (L2.CX P w) 2 a.f__from_table a.d__from_table ["table"] (spF K (ecOf a) 1 F__from_table) := by
  refine fn_ok (m := m__from_table) (k := 1) T.F__from_table sc__from_table rfl fun cdv A outer s H E hr => ?_
  unfold m__from_table
  exact (xs_cons (x_set 1 sc__from_table.nd (x_lst xa_nil))
    (xs_cons (x_for (vs := [2]) (passes_of rfl) rfl (xi_seq (x_biB (callS_sortD rfl (r65 hr)) T.z_sorted (by decide +kernel) (xa_cons (x_var 0) xa_nil))) (pg_name (i := 2) sc__from_table.nd rfl (by first | exact Or.inl rfl | exact Or.inr rfl)) tgs_name (xs_cons (x_asg (vs := [3, 4]) (x_dget (ru hr) (x_var 0) (x_var 2)) (pg_tup rfl (pgs_cons (pg_name (i := 3) sc__from_table.nd rfl (by first | exact Or.inl rfl | exact Or.inr rfl)) (pgs_cons (pg_name (i := 4) sc__from_table.nd rfl (by first | exact Or.inl rfl | exact Or.inr rfl)) pgs_nil))) (tgs_tup (tgs_cons tgs_name (tgs_cons tgs_name tgs_nil))))
    (xs_one (x_if (xt_cmp opS_ne (x_var 3) x_int) (xs_one (x_ex (x_app (x_var 1) (x_tup (xa_cons (x_var 2) (xa_cons (x_call (takes_of rfl rfl rfl rfl) (ok_number T) (hr.mono (by decide)) T.g_number T.F_number.kp T.b_number (xa_cons (x_var 3) (xa_cons (x_var 4) xa_nil)) (hms := (mCons_len (mCons_len mNilL)))) xa_nil)))))) xs_nil))))
    (xs_one (x_ret (x_biT callS_tuple T.z_tuple (by decide +kernel) (xa_cons (x_var 1) xa_nil))))))
theorem ok__moved_row (T : Txt K mg a) : FnOk P w K mg base (L2.CX P w) 2 a.f__moved_row a.d__moved_row ["row", "x"] (spF K (ecOf a) 2 F__moved_row) := by
  refine fn_ok (m := m__moved_row) (k := 1) T.F__moved_row sc__moved_row rfl fun cdv A outer s H E hr => ?_
  unfold m__moved_row
  exact (xs_cons (x_asg (vs := [2, 3]) (x_var 1) (pg_tup rfl (pgs_cons (pg_name (i := 2) sc__moved_row.nd rfl (by first | exact Or.inl rfl | exact Or.inr rfl)) (pgs_cons (pg_name (i := 3) sc__moved_row.nd rfl (by first | exact Or.inl rfl | exact Or.inr rfl)) pgs_nil))) (tgs_tup (tgs_cons tgs_name (tgs_cons tgs_name tgs_nil))))
    (xs_cons (x_set 4 sc__moved_row.nd (x_ix (x_ix (x_var 0) (x_neg x_int)) x_int))
    (xs_cons (x_set 5 sc__moved_row.nd x_int)
    (xs_cons (x_for (vs := [6, 7]) (passes_of rfl) rfl (xi_seq (x_var 0)) (pg_tup rfl (pgs_cons (pg_name (i := 6) sc__moved_row.nd rfl (by first | exact Or.inl rfl | exact Or.inr rfl)) (pgs_cons (pg_name (i := 7) sc__moved_row.nd rfl (by first | exact Or.inl rfl | exact Or.inr rfl)) pgs_nil))) (tgs_tup (tgs_cons tgs_name (tgs_cons tgs_name tgs_nil))) (xs_one (x_set 5 sc__moved_row.nd (x_biF callS_lcm T.z_lcm (xa_cons (x_var 5) (xa_cons (x_ix (x_var 7) x_int) xa_nil))))))
    (xs_cons (x_set 9 sc__moved_row.nd (x_lc (own := [("e", 8)]) rfl sc__moved_row.nd (xi_rng1 (xa_cons (x_bin opS_add (x_var 4) x_int) xa_nil) T.z_range) (blkOk_by (N := ["row", "x", "a", "b", "top", "below", "_", "coefficient", "e", "powers", "wholes", "start"]) (sc := defScope s__moved_row) (by first | decide +kernel | rfl)) (fun _ _ _ _ _ => (pg_name (i := 8) sc__moved_row.nd rfl (by first | exact Or.inl rfl | exact Or.inr rfl))) tgs_name (fun _ _ _ _ _ => xts_nil) (fun _ _ _ _ _ => (x_call takes0 (ok_whole_power T) (hr.mono (by decide)) T.g_whole_power T.F_whole_power.kp T.b_whole_power (xa_cons (x_var 3) (xa_cons (x_var 8) xa_nil)) (hms := (mCons_len (mCons_len mNilL)))))))
    (xs_cons (x_set 10 sc__moved_row.nd (x_bin opS_repL (x_lst (xa_cons x_int xa_nil)) (x_bin opS_add (x_var 4) x_int)))
    (xs_cons (x_for (vs := [8, 7]) (passes_of rfl) rfl (xi_seq (x_var 0)) (pg_tup rfl (pgs_cons (pg_name (i := 8) sc__moved_row.nd rfl (by first | exact Or.inl rfl | exact Or.inr rfl)) (pgs_cons (pg_name (i := 7) sc__moved_row.nd rfl (by first | exact Or.inl rfl | exact Or.inr rfl)) pgs_nil))) (tgs_tup (tgs_cons tgs_name (tgs_cons tgs_name tgs_nil))) (xs_one (x_lput (x_var 10) (x_var 8) (x_bin opS_mul (x_bin opS_mul (x_ix (x_var 7) x_int) (x_bin opS_div (x_var 5) (x_ix (x_var 7) x_int))) (x_ix (x_var 9) (x_bin opS_sub (x_var 4) (x_var 8)))) (pg_sub (x_var 10) (x_var 8) set_list))))
    (xs_cons (x_for (vs := [11]) (passes_of rfl) rfl (xi_rng1 (xa_cons (x_var 4) xa_nil) T.z_range) (pg_name (i := 11) sc__moved_row.nd rfl (by first | exact Or.inl rfl | exact Or.inr rfl)) tgs_name (xs_one (x_for (vs := [8]) (passes_of rfl) rfl (xi_rev2 (x_var 11) (x_var 4) T.z_reversed T.z_range) (pg_name (i := 8) sc__moved_row.nd rfl (by first | exact Or.inl rfl | exact Or.inr rfl)) tgs_name (xs_one (x_laug ip_add (x_var 10) (x_var 8) (x_bin opS_mul (x_var 2) (x_ix (x_var 10) (x_bin opS_add (x_var 8) x_int))))))))
    (xs_one (x_ret (x_lc (own := [("e", 8)]) rfl sc__moved_row.nd (xi_rng1 (xa_cons (x_bin opS_add (x_var 4) x_int) xa_nil) T.z_range) (blkOk_by (N := ["row", "x", "a", "b", "top", "below", "_", "coefficient", "e", "powers", "wholes", "start"]) (sc := defScope s__moved_row) (by first | decide +kernel | rfl)) (fun _ _ _ _ _ => (pg_name (i := 8) sc__moved_row.nd rfl (by first | exact Or.inl rfl | exact Or.inr rfl))) tgs_name (fun _ _ _ _ _ => xts_nil) (fun _ _ _ _ _ => (x_tup (xa_cons (x_var 8) (xa_cons (x_ix (x_var 10) (x_var 8)) (xa_cons (x_bin opS_mul (x_var 5) (x_ix (x_var 9) (x_bin opS_sub (x_var 4) (x_var 8)))) xa_nil))))))))))))))))
theorem ok__law_is_number (T : Txt K mg a) : FnOk P w K mg base (L2.CX P w) 2 a.f__law_is_number a.d__law_is_number ["x", "due"] (spF K (ecOf a) 2 F__law_is_number) := by
  refine fn_ok (m := m__law_is_number) (k := 1) T.F__law_is_number sc__law_is_number rfl fun cdv A outer s H E hr => ?_
  unfold m__law_is_number
  exact (xs_one (x_ret (x_andV (x_call (takes_of rfl rfl rfl rfl) (ok__law_is_int T) (hr.mono (by decide)) T.g__law_is_int T.F__law_is_int.kp T.b__law_is_int (xa_cons (x_var 0) xa_nil) (hms := (mCons_len mNilL))) (x_one (x_cmp opS_eq (x_var 0) (x_var 1))))))
theorem ok__law_frac (T : Txt K mg a) : FnOk P w K mg base (L2.CX P w) 2 a.f__law_frac a.d__law_frac ["a", "b"] (spF K (ecOf a) 2 F__law_frac) := by
  refine fn_ok (m := m__law_frac) (k := 1) T.F__law_frac sc__law_frac rfl fun cdv A outer s H E hr => ?_
  unfold m__law_frac
  exact (xs_cons (x_set 2 sc__law_frac.nd (x_call (takes_of rfl rfl rfl rfl) (ok__law_gcd T) (hr.mono (by decide)) T.g__law_gcd T.F__law_gcd.kp T.b__law_gcd (xa_cons (x_var 0) (xa_cons (x_var 1) xa_nil)) (hms := (mCons_len (mCons_len mNilL)))))
    (xs_cons (x_if (xt_cmp opS_lt (x_var 1) x_int) (xs_one (x_set 2 sc__law_frac.nd (x_neg (x_var 2)))) xs_nil)
    (xs_one (x_ret (x_tup (xa_cons (x_bin opS_div (x_var 0) (x_var 2)) (xa_cons (x_bin opS_div (x_var 1) (x_var 2)) xa_nil)))))))
theorem ok__law_const (T : Txt K mg a) : FnOk P w K mg base (L2.CX P w) 2 a.f__law_const a.d__law_const ["n", "x"] (spF K (ecOf a) 2 F__law_const) := by
  refine fn_ok (m := m__law_const) (k := 1) T.F__law_const sc__law_const rfl fun cdv A outer s H E hr => ?_
  unfold m__law_const
  exact (xs_one (x_ret (x_call (takes_of rfl rfl rfl rfl) (ok__law_tidy T) (hr.mono (by decide)) T.g__law_tidy T.F__law_tidy.kp T.b__law_tidy (xa_cons (x_dct1 (ru hr) (x_bin opS_repT (x_tup (xa_cons x_int xa_nil)) (x_var 0)) (x_var 1)) xa_nil) (hms := (mCons_len mNilL)))))
theorem ok__collected (T : Txt K mg a) : FnOk P w K mg base (L2.CX P w) 3 a.f__collected a.d__collected ["pairs"] (spF K (ecOf a) 1 F__collected) := by
  refine fn_ok (m := m__collected) (k := 2) T.F__collected sc__collected rfl fun cdv A outer s H E hr => ?_
  unfold m__collected
  exact (xs_cons (x_set 1 sc__collected.nd x_dct0)
    (xs_cons (x_for (vs := [2, 3]) (passes_of rfl) rfl (xi_seq (x_var 0)) (pg_tup rfl (pgs_cons (pg_name (i := 2) sc__collected.nd rfl (by first | exact Or.inl rfl | exact Or.inr rfl)) (pgs_cons (pg_name (i := 3) sc__collected.nd rfl (by first | exact Or.inl rfl | exact Or.inr rfl)) pgs_nil))) (tgs_tup (tgs_cons tgs_name (tgs_cons tgs_name tgs_nil))) (xs_one (x_ex (x_call (takes_of rfl rfl rfl rfl) (ok__add_term T) (hr.mono (by decide)) T.g__add_term T.F__add_term.kp T.b__add_term (xa_cons (x_var 1) (xa_cons (x_var 2) (xa_cons (x_var 3) xa_nil))) (hms := (mCons_len (mCons_len (mCons_len mNilL))))))))
    (xs_one (x_ret (x_call (takes_of rfl rfl rfl rfl) (ok__from_table T) (hr.mono (by decide)) T.g__from_table T.F__from_table.kp T.b__from_table (xa_cons (x_var 1) xa_nil) (hms := (mCons_len mNilL)))))))
theorem ok__moved_along (T : Txt K mg a) : FnOk P w K mg base (L2.CX P w) 3 a.f__moved_along a.d__moved_along ["p", "k", "x"] (spF K (ecOf a) 3 F__moved_along) := by
  refine fn_ok (m := m__moved_along) (k := 2) T.F__moved_along sc__moved_along rfl fun cdv A outer s H E hr => ?_
  unfold m__moved_along
  exact (xs_cons (x_set 3 sc__moved_along.nd x_dct0)
    (xs_cons (x_for (vs := [4, 5]) (passes_of rfl) rfl (xi_seq (x_var 0)) (pg_tup rfl (pgs_cons (pg_name (i := 4) sc__moved_along.nd rfl (by first | exact Or.inl rfl | exact Or.inr rfl)) (pgs_cons (pg_name (i := 5) sc__moved_along.nd rfl (by first | exact Or.inl rfl | exact Or.inr rfl)) pgs_nil))) (tgs_tup (tgs_cons tgs_name (tgs_cons tgs_name tgs_nil))) (xs_cons (x_set 6 sc__moved_along.nd (x_call (takes_of rfl rfl rfl rfl) (ok__with_exponent T) (hr.mono (by decide)) T.g__with_exponent T.F__with_exponent.kp T.b__with_exponent (xa_cons (x_var 4) (xa_cons (x_var 1) (xa_cons x_int xa_nil))) (hms := (mCons_len (mCons_len (mCons_len mNilL))))))
    (xs_one (x_ex (x_app (x_setd (ru hr) (x_var 3) (xa_cons (x_var 6) (xa_cons (x_lst xa_nil) xa_nil))) (x_tup (xa_cons (x_ix (x_var 4) (x_var 1)) (xa_cons (x_var 5) xa_nil))))))))
    (xs_cons (x_set 7 sc__moved_along.nd x_dct0)
    (xs_cons (x_forD 3 (x_for (vs := [6]) (passes_of rfl) rfl (x_keysL (x_var 3)) (pg_name (i := 6) sc__moved_along.nd rfl (by first | exact Or.inl rfl | exact Or.inr rfl)) tgs_name (xs_one (x_for (vs := [8, 9, 10]) (passes_of rfl) rfl (xi_seq (x_call (takes_of rfl rfl rfl rfl) (ok__moved_row T) (hr.mono (by decide)) T.g__moved_row T.F__moved_row.kp T.b__moved_row (xa_cons (x_dget (ru hr) (x_var 3) (x_var 6)) (xa_cons (x_var 2) xa_nil)) (hms := (mCons_len (mCons_len mNilL))))) (pg_tup rfl (pgs_cons (pg_name (i := 8) sc__moved_along.nd rfl (by first | exact Or.inl rfl | exact Or.inr rfl)) (pgs_cons (pg_name (i := 9) sc__moved_along.nd rfl (by first | exact Or.inl rfl | exact Or.inr rfl)) (pgs_cons (pg_name (i := 10) sc__moved_along.nd rfl (by first | exact Or.inl rfl | exact Or.inr rfl)) pgs_nil)))) (tgs_tup (tgs_cons tgs_name (tgs_cons tgs_name (tgs_cons tgs_name tgs_nil)))) (xs_one (x_dput (ru hr) (x_var 7) (x_call (takes_of rfl rfl rfl rfl) (ok__with_exponent T) (hr.mono (by decide)) T.g__with_exponent T.F__with_exponent.kp T.b__with_exponent (xa_cons (x_var 6) (xa_cons (x_var 1) (xa_cons (x_var 8) xa_nil))) (hms := (mCons_len (mCons_len (mCons_len mNilL))))) (x_tup (xa_cons (x_var 9) (xa_cons (x_var 10) xa_nil)))))))))
    (xs_one (x_ret (x_call (takes_of rfl rfl rfl rfl) (ok__from_table T) (hr.mono (by decide)) T.g__from_table T.F__from_table.kp T.b__from_table (xa_cons (x_var 7) xa_nil) (hms := (mCons_len mNilL)))))))))
theorem ok__law_add (T : Txt K mg a) : FnOk P w K mg base (L2.CX P w) 3 a.f__law_add a.d__law_add ["x", "y"] (spF K (ecOf a) 2 F__law_add) := by
  refine fn_ok (m := m__law_add) (k := 2) T.F__law_add sc__law_add rfl fun cdv A outer s H E hr => ?_
  unfold m__law_add
  exact (xs_one (x_ret (x_call (takes_of rfl rfl rfl rfl) (ok__law_frac T) (hr.mono (by decide)) T.g__law_frac T.F__law_frac.kp T.b__law_frac (xa_cons (x_bin opS_add (x_bin opS_mul (x_ix (x_var 0) x_int) (x_ix (x_var 1) x_int)) (x_bin opS_mul (x_ix (x_var 1) x_int) (x_ix (x_var 0) x_int))) (xa_cons (x_bin opS_mul (x_ix (x_var 0) x_int) (x_ix (x_var 1) x_int)) xa_nil)) (hms := (mCons_len (mCons_len mNilL))))))
theorem ok__law_mul (T : Txt K mg a) : FnOk P w K mg base (L2.CX P w) 3 a.f__law_mul a.d__law_mul ["x", "y"] (spF K (ecOf a) 2 F__law_mul) := by
  refine fn_ok (m := m__law_mul) (k := 2) T.F__law_mul sc__law_mul rfl fun cdv A outer s H E hr => ?_
  unfold m__law_mul
  exact (xs_one (x_ret (x_call (takes_of rfl rfl rfl rfl) (ok__law_frac T) (hr.mono (by decide)) T.g__law_frac T.F__law_frac.kp T.b__law_frac (xa_cons (x_bin opS_mul (x_ix (x_var 0) x_int) (x_ix (x_var 1) x_int)) (xa_cons (x_bin opS_mul (x_ix (x_var 0) x_int) (x_ix (x_var 1) x_int)) xa_nil)) (hms := (mCons_len (mCons_len mNilL))))))
theorem ok__law_same (T : Txt K mg a) : ∀ k : Nat, FnOk P w K mg base (L2.CX P w) (k + 3) a.f__law_same a.d__law_same ["x", "due"] (spF K (ecOf a) 2 (F__law_same k))
  | 0 => fn_none
  | k + 1 => by
    have IH := ok__law_same T k
    have h := fn_ok (P := P) (w := w) (base := base) (mg := mg) (ec := ecOf a) (k := k + 3) (m := m__law_same (F__law_same k)) (n := 3) T.F__law_same sc__law_same rfl (fun cdv A outer s H E hr => ?_)
    · exact h
    · unfold m__law_same
      exact (xs_cons (x_if (x_test (x_biB callS_isi T.z_isinstance (by decide +kernel) (xa_cons (x_var 1) (xa_cons (x_ty T.z_tuple (by decide +kernel)) xa_nil)))) (xs_cons (x_if (XW.xt (xw_or (xt_not (x_test (x_biB callS_isi T.z_isinstance (by decide +kernel) (xa_cons (x_var 0) (xa_cons (x_ty T.z_tuple (by decide +kernel)) xa_nil))))) (xw_or1 (xt_cmp opS_ne (x_biB callS_len T.z_len (by decide +kernel) (xa_cons (x_var 0) xa_nil)) (x_biB callS_len T.z_len (by decide +kernel) (xa_cons (x_var 1) xa_nil)))))) (xs_one (x_ret x_bl)) xs_nil)
    (xs_one (x_ret (x_cmp opS_eq (x_biB callS_len T.z_len (by decide +kernel) (xa_cons (x_lc (own := [("k", 2)]) rfl sc__law_same.nd (xi_rng1 (xa_cons (x_biB callS_len T.z_len (by decide +kernel) (xa_cons (x_var 1) xa_nil)) xa_nil) T.z_range) (blkOk_by (N := ["x", "due", "k"]) (sc := defScope s__law_same) (by first | decide +kernel | rfl)) (fun _ _ _ _ _ => (pg_name (i := 2) sc__law_same.nd rfl (by first | exact Or.inl rfl | exact Or.inr rfl))) tgs_name (fun _ _ _ _ _ => (xts_one (xt_not (x_truth (x_call takes0 IH hr T.g__law_same T.F__law_same.kp T.b__law_same (xa_cons (x_ix (x_var 0) (x_var 2)) (xa_cons (x_ix (x_var 1) (x_var 2)) xa_nil)) (hms := (mCons_len (mCons_len mNilL)))))))) (fun _ _ _ _ _ => (x_var 2))) xa_nil)) x_int)))) xs_nil)
    (xs_cons (x_if (x_test (x_biB callS_isi T.z_isinstance (by decide +kernel) (xa_cons (x_var 1) (xa_cons (x_ty T.z_list (by decide +kernel)) xa_nil)))) (xs_cons (x_if (XW.xt (xw_or (xt_not (x_test (x_biB callS_isi T.z_isinstance (by decide +kernel) (xa_cons (x_var 0) (xa_cons (x_ty T.z_list (by decide +kernel)) xa_nil))))) (xw_or1 (xt_cmp opS_ne (x_biB callS_len T.z_len (by decide +kernel) (xa_cons (x_var 0) xa_nil)) (x_biB callS_len T.z_len (by decide +kernel) (xa_cons (x_var 1) xa_nil)))))) (xs_one (x_ret x_bl)) xs_nil)
    (xs_one (x_ret (x_cmp opS_eq (x_biB callS_len T.z_len (by decide +kernel) (xa_cons (x_lc (own := [("k", 2)]) rfl sc__law_same.nd (xi_rng1 (xa_cons (x_biB callS_len T.z_len (by decide +kernel) (xa_cons (x_var 1) xa_nil)) xa_nil) T.z_range) (blkOk_by (N := ["x", "due", "k"]) (sc := defScope s__law_same) (by first | decide +kernel | rfl)) (fun _ _ _ _ _ => (pg_name (i := 2) sc__law_same.nd rfl (by first | exact Or.inl rfl | exact Or.inr rfl))) tgs_name (fun _ _ _ _ _ => (xts_one (xt_not (x_truth (x_call takes0 IH hr T.g__law_same T.F__law_same.kp T.b__law_same (xa_cons (x_ix (x_var 0) (x_var 2)) (xa_cons (x_ix (x_var 1) (x_var 2)) xa_nil)) (hms := (mCons_len (mCons_len mNilL)))))))) (fun _ _ _ _ _ => (x_var 2))) xa_nil)) x_int)))) xs_nil)
    (xs_cons (x_if (xt_cmp opS_is (x_var 1) x_non) (xs_one (x_ret (x_cmp opS_is (x_var 0) x_non))) xs_nil)
    (xs_cons (x_if (xt_cmp opS_is (x_var 1) x_bl) (xs_one (x_ret (x_cmp opS_is (x_var 0) x_bl))) xs_nil)
    (xs_cons (x_if (xt_cmp opS_is (x_var 1) x_bl) (xs_one (x_ret (x_cmp opS_is (x_var 0) x_bl))) xs_nil)
    (xs_cons (x_if (x_test (x_biB callS_isi T.z_isinstance (by decide +kernel) (xa_cons (x_var 1) (xa_cons (x_ty T.z_int (by decide +kernel)) xa_nil)))) (xs_one (x_ret (x_call (takes_of rfl rfl rfl rfl) (ok__law_is_number T) (hr.mono (by omega)) T.g__law_is_number T.F__law_is_number.kp T.b__law_is_number (xa_cons (x_var 0) (xa_cons (x_var 1) xa_nil)) (hms := (mCons_len (mCons_len mNilL)))))) xs_nil)
    (xs_one (x_ret (x_call (takes_of rfl rfl rfl rfl) (ok__law_is_text T) (hr.mono (by omega)) T.g__law_is_text T.F__law_is_text.kp T.b__law_is_text (xa_cons (x_var 0) (xa_cons (x_var 1) xa_nil)) (hms := (mCons_len (mCons_len mNilL))))))))))))
theorem ok__law_small (T : Txt K mg a) : FnOk P w K mg base (L2.CX P w) 3 a.f__law_small a.d__law_small ["draw"] (spF K (ecOf a) 1 F__law_small) := by
  refine fn_ok (m := m__law_small) (k := 2) T.F__law_small sc__law_small rfl fun cdv A outer s H E hr => ?_
  unfold m__law_small
  exact (xs_one (x_ret (x_call (takes_of rfl rfl rfl rfl) (ok__law_frac T) (hr.mono (by decide)) T.g__law_frac T.F__law_frac.kp T.b__law_frac (xa_cons (x_bin opS_sub (x_bin opS_mod (x_var 0) x_int) x_int) (xa_cons (x_bin opS_add x_int (x_bin opS_mod (x_bin opS_div (x_var 0) x_int) x_int)) xa_nil)) (hms := (mCons_len (mCons_len mNilL))))))
theorem ok_moved (T : Txt K mg a) : FnOk P w K mg base (L2.CX P w) 4 a.f_moved a.d_moved ["n", "p", "point"] (spF K (ecOf a) 3 F_moved) := by
  refine fn_ok (m := m_moved) (k := 3) T.F_moved sc_moved rfl fun cdv A outer s H E hr => ?_
  unfold m_moved
  exact (xs_cons (x_for (vs := [3]) (passes_of rfl) rfl (xi_rng1 (xa_cons (x_var 0) xa_nil) T.z_range) (pg_name (i := 3) sc_moved.nd rfl (by first | exact Or.inl rfl | exact Or.inr rfl)) tgs_name (xs_one (x_if (xt_cmp opS_ne (x_ix (x_ix (x_var 2) (x_var 3)) x_int) x_int) (xs_one (x_set 1 sc_moved.nd (x_call (takes_of rfl rfl rfl rfl) (ok__moved_along T) (hr.mono (by decide)) T.g__moved_along T.F__moved_along.kp T.b__moved_along (xa_cons (x_var 1) (xa_cons (x_var 3) (xa_cons (x_ix (x_var 2) (x_var 3)) xa_nil))) (hms := (mCons_len (mCons_len (mCons_len mNilL))))))) xs_nil)))
    (xs_one (x_ret (x_var 1))))
theorem ok_fixed (T : Txt K mg a) : FnOk P w K mg base (L2.CX P w) 4 a.f_fixed a.d_fixed ["n", "p", "k", "x"] (spF K (ecOf a) 4 F_fixed) := by
  refine fn_ok (m := m_fixed) (k := 3) T.F_fixed sc_fixed rfl fun cdv A outer s H E hr => ?_
  unfold m_fixed
  exact (xs_cons (x_set 4 sc_fixed.nd (x_lst xa_nil))
    (xs_cons (x_for (vs := [5, 6]) (passes_of rfl) rfl (xi_seq (x_var 1)) (pg_tup rfl (pgs_cons (pg_name (i := 5) sc_fixed.nd rfl (by first | exact Or.inl rfl | exact Or.inr rfl)) (pgs_cons (pg_name (i := 6) sc_fixed.nd rfl (by first | exact Or.inl rfl | exact Or.inr rfl)) pgs_nil))) (tgs_tup (tgs_cons tgs_name (tgs_cons tgs_name tgs_nil))) (xs_cons (x_set 7 sc_fixed.nd (x_call (takes_of rfl rfl rfl rfl) (ok_times T) (hr.mono (by decide)) T.g_times T.F_times.kp T.b_times (xa_cons (x_var 6) (xa_cons (x_call (takes_of rfl rfl rfl rfl) (ok_power T) (hr.mono (by decide)) T.g_power T.F_power.kp T.b_power (xa_cons (x_var 3) (xa_cons (x_ix (x_var 5) (x_var 2)) xa_nil)) (hms := (mCons_len (mCons_len mNilL)))) xa_nil)) (hms := (mCons_len (mCons_len mNilL)))))
    (xs_one (x_ex (x_app (x_var 4) (x_tup (xa_cons (x_bin opS_add (x_sxH (x_var 5) (x_var 2)) (x_sxL (x_var 5) (x_bin opS_add (x_var 2) x_int))) (xa_cons (x_var 7) xa_nil))))))))
    (xs_one (x_ret (x_call (takes_of rfl rfl rfl rfl) (ok__collected T) (hr.mono (by decide)) T.g__collected T.F__collected.kp T.b__collected (xa_cons (x_var 4) xa_nil) (hms := (mCons_len mNilL)))))))
theorem ok__law_power (T : Txt K mg a) : FnOk P w K mg base (L2.CX P w) 4 a.f__law_power a.d__law_power ["x", "k"] (spF K (ecOf a) 2 F__law_power) := by
  refine fn_ok (m := m__law_power) (k := 3) T.F__law_power sc__law_power rfl fun cdv A outer s H E hr => ?_
  unfold m__law_power
  exact (xs_cons (x_set 2 sc__law_power.nd (x_tup (xa_cons x_int (xa_cons x_int xa_nil))))
    (xs_cons (x_for (vs := [3]) (passes_of rfl) rfl (xi_rng1 (xa_cons (x_var 1) xa_nil) T.z_range) (pg_name (i := 3) sc__law_power.nd rfl (by first | exact Or.inl rfl | exact Or.inr rfl)) tgs_name (xs_one (x_set 2 sc__law_power.nd (x_call (takes_of rfl rfl rfl rfl) (ok__law_mul T) (hr.mono (by decide)) T.g__law_mul T.F__law_mul.kp T.b__law_mul (xa_cons (x_var 2) (xa_cons (x_var 0) xa_nil)) (hms := (mCons_len (mCons_len mNilL)))))))
    (xs_one (x_ret (x_var 2)))))
theorem ok__law_put (T : Txt K mg a) : FnOk P w K mg base (L2.CX P w) 4 a.f__law_put a.d__law_put ["sums", "e", "x"] (spF K (ecOf a) 3 F__law_put) := by
  refine fn_ok (m := m__law_put) (k := 3) T.F__law_put sc__law_put rfl fun cdv A outer s H E hr => ?_
  unfold m__law_put
  exact (xs_one (x_dput (ru hr) (x_var 0) (x_var 1) (x_call (takes_of rfl rfl rfl rfl) (ok__law_add T) (hr.mono (by decide)) T.g__law_add T.F__law_add.kp T.b__law_add (xa_cons (x_dget2 (ru hr) (x_var 0) (x_var 1) (x_tup (xa_cons x_int (xa_cons x_int xa_nil))) ⟨rfl, rfl, rfl, rfl⟩) (xa_cons (x_var 2) xa_nil)) (hms := (mCons_len (mCons_len mNilL))))))
theorem ok__law_point (T : Txt K mg a) : FnOk P w K mg base (L2.CX P w) 4 a.f__law_point a.d__law_point ["n", "draws", "at"] (spF K (ecOf a) 3 F__law_point) := by
  refine fn_ok (m := m__law_point) (k := 3) T.F__law_point sc__law_point rfl fun cdv A outer s H E hr => ?_
  unfold m__law_point
  exact (xs_one (x_ret (x_biT callS_tuple T.z_tuple (by decide +kernel) (xa_cons (x_lc (own := [("k", 3)]) rfl sc__law_point.nd (xi_rng1 (xa_cons (x_var 0) xa_nil) T.z_range) (blkOk_by (N := ["n", "draws", "at", "k"]) (sc := defScope s__law_point) (by first | decide +kernel | rfl)) (fun _ _ _ _ _ => (pg_name (i := 3) sc__law_point.nd rfl (by first | exact Or.inl rfl | exact Or.inr rfl))) tgs_name (fun _ _ _ _ _ => xts_nil) (fun _ _ _ _ _ => (x_call takes0 (ok__law_small T) (hr.mono (by decide)) T.g__law_small T.F__law_small.kp T.b__law_small (xa_cons (x_ix (x_var 1) (x_bin opS_mod (x_bin opS_add (x_var 2) (x_var 3)) (x_biB callS_len T.z_len (by decide +kernel) (xa_cons (x_var 1) xa_nil)))) xa_nil) (hms := (mCons_len mNilL))))) xa_nil))))
theorem ok__law_padd (T : Txt K mg a) : FnOk P w K mg base (L2.CX P w) 5 a.f__law_padd a.d__law_padd ["p", "q"] (spF K (ecOf a) 2 F__law_padd) := by
  refine fn_ok (m := m__law_padd) (k := 4) T.F__law_padd sc__law_padd rfl fun cdv A outer s H E hr => ?_
  unfold m__law_padd
  exact (xs_cons (x_set 2 sc__law_padd.nd x_dct0)
    (xs_cons (x_for (vs := [3, 4]) (passes_of rfl) rfl (xi_seq (x_bin opS_add (x_var 0) (x_var 1))) (pg_tup rfl (pgs_cons (pg_name (i := 3) sc__law_padd.nd rfl (by first | exact Or.inl rfl | exact Or.inr rfl)) (pgs_cons (pg_name (i := 4) sc__law_padd.nd rfl (by first | exact Or.inl rfl | exact Or.inr rfl)) pgs_nil))) (tgs_tup (tgs_cons tgs_name (tgs_cons tgs_name tgs_nil))) (xs_one (x_ex (x_call (takes_of rfl rfl rfl rfl) (ok__law_put T) (hr.mono (by decide)) T.g__law_put T.F__law_put.kp T.b__law_put (xa_cons (x_var 2) (xa_cons (x_var 3) (xa_cons (x_var 4) xa_nil))) (hms := (mCons_len (mCons_len (mCons_len mNilL))))))))
    (xs_one (x_ret (x_call (takes_of rfl rfl rfl rfl) (ok__law_tidy T) (hr.mono (by decide)) T.g__law_tidy T.F__law_tidy.kp T.b__law_tidy (xa_cons (x_var 2) xa_nil) (hms := (mCons_len mNilL)))))))
theorem ok__law_pmul (T : Txt K mg a) : FnOk P w K mg base (L2.CX P w) 5 a.f__law_pmul a.d__law_pmul ["p", "q"] (spF K (ecOf a) 2 F__law_pmul) := by
  refine fn_ok (m := m__law_pmul) (k := 4) T.F__law_pmul sc__law_pmul rfl fun cdv A outer s H E hr => ?_
  unfold m__law_pmul
  exact (xs_cons (x_set 2 sc__law_pmul.nd x_dct0)
    (xs_cons (x_for (vs := [3, 4]) (passes_of rfl) rfl (xi_seq (x_var 0)) (pg_tup rfl (pgs_cons (pg_name (i := 3) sc__law_pmul.nd rfl (by first | exact Or.inl rfl | exact Or.inr rfl)) (pgs_cons (pg_name (i := 4) sc__law_pmul.nd rfl (by first | exact Or.inl rfl | exact Or.inr rfl)) pgs_nil))) (tgs_tup (tgs_cons tgs_name (tgs_cons tgs_name tgs_nil))) (xs_one (x_for (vs := [5, 6]) (passes_of rfl) rfl (xi_seq (x_var 1)) (pg_tup rfl (pgs_cons (pg_name (i := 5) sc__law_pmul.nd rfl (by first | exact Or.inl rfl | exact Or.inr rfl)) (pgs_cons (pg_name (i := 6) sc__law_pmul.nd rfl (by first | exact Or.inl rfl | exact Or.inr rfl)) pgs_nil))) (tgs_tup (tgs_cons tgs_name (tgs_cons tgs_name tgs_nil))) (xs_one (x_ex (x_call (takes_of rfl rfl rfl rfl) (ok__law_put T) (hr.mono (by decide)) T.g__law_put T.F__law_put.kp T.b__law_put (xa_cons (x_var 2) (xa_cons (x_biT callS_tuple T.z_tuple (by decide +kernel) (xa_cons (x_lc (own := [("k", 7)]) rfl sc__law_pmul.nd (xi_rng1 (xa_cons (x_biB callS_len T.z_len (by decide +kernel) (xa_cons (x_var 3) xa_nil)) xa_nil) T.z_range) (blkOk_by (N := ["p", "q", "sums", "e", "x", "f", "y", "k"]) (sc := defScope s__law_pmul) (by first | decide +kernel | rfl)) (fun _ _ _ _ _ => (pg_name (i := 7) sc__law_pmul.nd rfl (by first | exact Or.inl rfl | exact Or.inr rfl))) tgs_name (fun _ _ _ _ _ => xts_nil) (fun _ _ _ _ _ => (x_bin opS_add (x_ix (x_var 3) (x_var 7)) (x_ix (x_var 5) (x_var 7))))) xa_nil)) (xa_cons (x_call (takes_of rfl rfl rfl rfl) (ok__law_mul T) (hr.mono (by decide)) T.g__law_mul T.F__law_mul.kp T.b__law_mul (xa_cons (x_var 4) (xa_cons (x_var 6) xa_nil)) (hms := (mCons_len (mCons_len mNilL)))) xa_nil))) (hms := (mCons_len (mCons_len (mCons_len mNilL))))))))))
    (xs_one (x_ret (x_call (takes_of rfl rfl rfl rfl) (ok__law_tidy T) (hr.mono (by decide)) T.g__law_tidy T.F__law_tidy.kp T.b__law_tidy (xa_cons (x_var 2) xa_nil) (hms := (mCons_len mNilL)))))))
theorem ok__law_fixed (T : Txt K mg a) : FnOk P w K mg base (L2.CX P w) 5 a.f__law_fixed a.d__law_fixed ["p", "k", "x"] (spF K (ecOf a) 3 F__law_fixed) := by
  refine fn_ok (m := m__law_fixed) (k := 4) T.F__law_fixed sc__law_fixed rfl fun cdv A outer s H E hr => ?_
  unfold m__law_fixed
  exact (xs_cons (x_set 3 sc__law_fixed.nd x_dct0)
    (xs_cons (x_for (vs := [4, 5]) (passes_of rfl) rfl (xi_seq (x_var 0)) (pg_tup rfl (pgs_cons (pg_name (i := 4) sc__law_fixed.nd rfl (by first | exact Or.inl rfl | exact Or.inr rfl)) (pgs_cons (pg_name (i := 5) sc__law_fixed.nd rfl (by first | exact Or.inl rfl | exact Or.inr rfl)) pgs_nil))) (tgs_tup (tgs_cons tgs_name (tgs_cons tgs_name tgs_nil))) (xs_one (x_ex (x_call (takes_of rfl rfl rfl rfl) (ok__law_put T) (hr.mono (by decide)) T.g__law_put T.F__law_put.kp T.b__law_put (xa_cons (x_var 3) (xa_cons (x_bin opS_add (x_sxH (x_var 4) (x_var 1)) (x_sxL (x_var 4) (x_bin opS_add (x_var 1) x_int))) (xa_cons (x_call (takes_of rfl rfl rfl rfl) (ok__law_mul T) (hr.mono (by decide)) T.g__law_mul T.F__law_mul.kp T.b__law_mul (xa_cons (x_var 5) (xa_cons (x_call (takes_of rfl rfl rfl rfl) (ok__law_power T) (hr.mono (by decide)) T.g__law_power T.F__law_power.kp T.b__law_power (xa_cons (x_var 2) (xa_cons (x_ix (x_var 4) (x_var 1)) xa_nil)) (hms := (mCons_len (mCons_len mNilL)))) xa_nil)) (hms := (mCons_len (mCons_len mNilL)))) xa_nil))) (hms := (mCons_len (mCons_len (mCons_len mNilL))))))))
    (xs_one (x_ret (x_call (takes_of rfl rfl rfl rfl) (ok__law_tidy T) (hr.mono (by decide)) T.g__law_tidy T.F__law_tidy.kp T.b__law_tidy (xa_cons (x_var 3) xa_nil) (hms := (mCons_len mNilL)))))))
theorem ok__law_poly (T : Txt K mg a) : FnOk P w K mg base (L2.CX P w) 5 a.f__law_poly a.d__law_poly ["n", "draws", "at", "most", "high"] (spF K (ecOf a) 5 F__law_poly) := by
  refine fn_ok (m := m__law_poly) (k := 4) T.F__law_poly sc__law_poly rfl fun cdv A outer s H E hr => ?_
  unfold m__law_poly
  exact (xs_cons (x_set 5 sc__law_poly.nd x_dct0)
    (xs_cons (x_for (vs := [6]) (passes_of rfl) rfl (xi_rng1 (xa_cons (x_bin opS_mod (x_ix (x_var 1) (x_bin opS_mod (x_var 2) (x_biB callS_len T.z_len (by decide +kernel) (xa_cons (x_var 1) xa_nil)))) (x_bin opS_add (x_var 3) x_int)) xa_nil) T.z_range) (pg_name (i := 6) sc__law_poly.nd rfl (by first | exact Or.inl rfl | exact Or.inr rfl)) tgs_name (xs_cons (x_set 7 sc__law_poly.nd (x_ix (x_var 1) (x_bin opS_mod (x_bin opS_add (x_bin opS_add (x_var 2) x_int) (x_var 6)) (x_biB callS_len T.z_len (by decide +kernel) (xa_cons (x_var 1) xa_nil)))))
    (xs_cons (x_set 8 sc__law_poly.nd (x_biT callS_tuple T.z_tuple (by decide +kernel) (xa_cons (x_lc (own := [("i", 9)]) rfl sc__law_poly.nd (xi_rng1 (xa_cons (x_var 0) xa_nil) T.z_range) (blkOk_by (N := ["n", "draws", "at", "most", "high", "sums", "k", "d", "e", "i"]) (sc := defScope s__law_poly) (by first | decide +kernel | rfl)) (fun _ _ _ _ _ => (pg_name (i := 9) sc__law_poly.nd rfl (by first | exact Or.inl rfl | exact Or.inr rfl))) tgs_name (fun _ _ _ _ _ => xts_nil) (fun _ _ _ _ _ => (x_bin opS_mod (x_bin opS_div (x_var 7) (x_bin opS_add x_int (x_bin opS_mul x_int (x_var 9)))) (x_bin opS_add (x_var 4) x_int)))) xa_nil)))
    (xs_one (x_ex (x_call (takes_of rfl rfl rfl rfl) (ok__law_put T) (hr.mono (by decide)) T.g__law_put T.F__law_put.kp T.b__law_put (xa_cons (x_var 5) (xa_cons (x_var 8) (xa_cons (x_call (takes_of rfl rfl rfl rfl) (ok__law_small T) (hr.mono (by decide)) T.g__law_small T.F__law_small.kp T.b__law_small (xa_cons (x_bin opS_add (x_bin opS_div (x_var 7) x_int) (x_bin opS_mul x_int (x_var 6))) xa_nil) (hms := (mCons_len mNilL))) xa_nil))) (hms := (mCons_len (mCons_len (mCons_len mNilL))))))))))
    (xs_one (x_ret (x_call (takes_of rfl rfl rfl rfl) (ok__law_tidy T) (hr.mono (by decide)) T.g__law_tidy T.F__law_tidy.kp T.b__law_tidy (xa_cons (x_var 5) xa_nil) (hms := (mCons_len mNilL)))))))
theorem ok__law_ppow (T : Txt K mg a) : FnOk P w K mg base (L2.CX P w) 6 a.f__law_ppow a.d__law_ppow ["n", "p", "k"] (spF K (ecOf a) 3 F__law_ppow) := by
  refine fn_ok (m := m__law_ppow) (k := 5) T.F__law_ppow sc__law_ppow rfl fun cdv A outer s H E hr => ?_
  unfold m__law_ppow
  exact (xs_cons (x_set 3 sc__law_ppow.nd (x_call (takes_of rfl rfl rfl rfl) (ok__law_const T) (hr.mono (by decide)) T.g__law_const T.F__law_const.kp T.b__law_const (xa_cons (x_var 0) (xa_cons (x_tup (xa_cons x_int (xa_cons x_int xa_nil))) xa_nil)) (hms := (mCons_len (mCons_len mNilL)))))
    (xs_cons (x_for (vs := [4]) (passes_of rfl) rfl (xi_rng1 (xa_cons (x_var 2) xa_nil) T.z_range) (pg_name (i := 4) sc__law_ppow.nd rfl (by first | exact Or.inl rfl | exact Or.inr rfl)) tgs_name (xs_one (x_set 3 sc__law_ppow.nd (x_call (takes_of rfl rfl rfl rfl) (ok__law_pmul T) (hr.mono (by decide)) T.g__law_pmul T.F__law_pmul.kp T.b__law_pmul (xa_cons (x_var 3) (xa_cons (x_var 1) xa_nil)) (hms := (mCons_len (mCons_len mNilL)))))))
    (xs_one (x_ret (x_var 3)))))
theorem ok__law_moved (T : Txt K mg a) : FnOk P w K mg base (L2.CX P w) 7 a.f__law_moved a.d__law_moved ["n", "p", "point"] (spF K (ecOf a) 3 F__law_moved) := by
  refine fn_ok (m := m__law_moved) (k := 6) T.F__law_moved sc__law_moved rfl fun cdv A outer s H E hr => ?_
  unfold m__law_moved
  exact (xs_cons (x_set 3 sc__law_moved.nd (x_tup xa_nil))
    (xs_cons (x_for (vs := [4, 5]) (passes_of rfl) rfl (xi_seq (x_var 1)) (pg_tup rfl (pgs_cons (pg_name (i := 4) sc__law_moved.nd rfl (by first | exact Or.inl rfl | exact Or.inr rfl)) (pgs_cons (pg_name (i := 5) sc__law_moved.nd rfl (by first | exact Or.inl rfl | exact Or.inr rfl)) pgs_nil))) (tgs_tup (tgs_cons tgs_name (tgs_cons tgs_name tgs_nil))) (xs_cons (x_set 6 sc__law_moved.nd (x_call (takes_of rfl rfl rfl rfl) (ok__law_const T) (hr.mono (by decide)) T.g__law_const T.F__law_const.kp T.b__law_const (xa_cons (x_var 0) (xa_cons (x_var 5) xa_nil)) (hms := (mCons_len (mCons_len mNilL)))))
    (xs_cons (x_for (vs := [7]) (passes_of rfl) rfl (xi_rng1 (xa_cons (x_var 0) xa_nil) T.z_range) (pg_name (i := 7) sc__law_moved.nd rfl (by first | exact Or.inl rfl | exact Or.inr rfl)) tgs_name (xs_one (x_set 6 sc__law_moved.nd (x_call (takes_of rfl rfl rfl rfl) (ok__law_pmul T) (hr.mono (by decide)) T.g__law_pmul T.F__law_pmul.kp T.b__law_pmul (xa_cons (x_var 6) (xa_cons (x_call (takes_of rfl rfl rfl rfl) (ok__law_ppow T) (hr.mono (by decide)) T.g__law_ppow T.F__law_ppow.kp T.b__law_ppow (xa_cons (x_var 0) (xa_cons (x_call (takes_of rfl rfl rfl rfl) (ok__law_padd T) (hr.mono (by decide)) T.g__law_padd T.F__law_padd.kp T.b__law_padd (xa_cons (x_call (takes_of rfl rfl rfl rfl) (ok__law_var T) (hr.mono (by decide)) T.g__law_var T.F__law_var.kp T.b__law_var (xa_cons (x_var 0) (xa_cons (x_var 7) xa_nil)) (hms := (mCons_len (mCons_len mNilL)))) (xa_cons (x_call (takes_of rfl rfl rfl rfl) (ok__law_const T) (hr.mono (by decide)) T.g__law_const T.F__law_const.kp T.b__law_const (xa_cons (x_var 0) (xa_cons (x_ix (x_var 2) (x_var 7)) xa_nil)) (hms := (mCons_len (mCons_len mNilL)))) xa_nil)) (hms := (mCons_len (mCons_len mNilL)))) (xa_cons (x_ix (x_var 4) (x_var 7)) xa_nil))) (hms := (mCons_len (mCons_len (mCons_len mNilL))))) xa_nil)) (hms := (mCons_len (mCons_len mNilL)))))))
    (xs_one (x_set 3 sc__law_moved.nd (x_call (takes_of rfl rfl rfl rfl) (ok__law_padd T) (hr.mono (by decide)) T.g__law_padd T.F__law_padd.kp T.b__law_padd (xa_cons (x_var 3) (xa_cons (x_var 6) xa_nil)) (hms := (mCons_len (mCons_len mNilL)))))))))
    (xs_one (x_ret (x_var 3)))))
theorem ok_law (T : Txt K mg a) : FnOk P w K mg base (L2.CX P w) 44 a.f_law a.d_law ["script"] (spF K (ecOf a) 1 F_law) := by
  refine fn_ok (m := m_law) (k := 43) T.F_law sc_law rfl fun cdv A outer s H E hr => ?_
  unfold m_law
  exact (xs_cons (x_for (vs := [1]) (passes_of rfl) rfl (xi_rng1 (xa_cons x_int xa_nil) T.z_range) (pg_name (i := 1) sc_law.nd rfl (by first | exact Or.inl rfl | exact Or.inr rfl)) tgs_name (xs_cons (x_set 2 sc_law.nd (x_call (takes_of rfl rfl rfl rfl) (ok__law_draws T) (hr.mono (by decide)) T.g__law_draws T.F__law_draws.kp T.b__law_draws (xa_cons (x_call (takes_of rfl rfl rfl rfl) (ok__law_cell T) (hr.mono (by decide)) T.g__law_cell T.F__law_cell.kp T.b__law_cell (xa_cons (x_var 0) (xa_cons (x_var 1) xa_nil)) (hms := (mCons_len (mCons_len mNilL)))) (xa_cons x_int xa_nil)) (hms := (mCons_len (mCons_len mNilL)))))
    (xs_cons (x_set 3 sc_law.nd (x_bin opS_add x_int (x_bin opS_mod (x_ix (x_var 2) x_int) x_int)))
    (xs_cons (x_set 4 sc_law.nd (x_call (takes_of rfl rfl rfl rfl) (ok__law_poly T) (hr.mono (by decide)) T.g__law_poly T.F__law_poly.kp T.b__law_poly (xa_cons (x_var 3) (xa_cons (x_var 2) (xa_cons x_int (xa_cons x_int (xa_cons x_int xa_nil))))) (hms := (mCons_len (mCons_len (mCons_len (mCons_len (mCons_len mNilL))))))))
    (xs_cons (x_set 5 sc_law.nd (x_call (takes_of rfl rfl rfl rfl) (ok__law_point T) (hr.mono (by decide)) T.g__law_point T.F__law_point.kp T.b__law_point (xa_cons (x_var 3) (xa_cons (x_var 2) (xa_cons x_int xa_nil))) (hms := (mCons_len (mCons_len (mCons_len mNilL))))))
    (xs_cons (x_if (xt_cmp opS_eq (x_bin opS_mod (x_ix (x_var 2) x_int) x_int) x_int) (xs_one (x_set 5 sc_law.nd (x_bin opS_repT (x_tup (xa_cons (x_tup (xa_cons x_int (xa_cons x_int xa_nil))) xa_nil)) (x_var 3)))) xs_nil)
    (xs_cons (x_if (xt_not (x_truth (x_call (takes_of rfl rfl rfl rfl) (ok__law_same T 40) (hr.mono (by decide)) T.g__law_same T.F__law_same.kp T.b__law_same (xa_cons (x_call (takes_of rfl rfl rfl rfl) (ok_moved T) (hr.mono (by decide)) T.g_moved T.F_moved.kp T.b_moved (xa_cons (x_var 3) (xa_cons (x_var 4) (xa_cons (x_var 5) xa_nil))) (hms := (mCons_len (mCons_len (mCons_len mNilL))))) (xa_cons (x_call (takes_of rfl rfl rfl rfl) (ok__law_moved T) (hr.mono (by decide)) T.g__law_moved T.F__law_moved.kp T.b__law_moved (xa_cons (x_var 3) (xa_cons (x_var 4) (xa_cons (x_var 5) xa_nil))) (hms := (mCons_len (mCons_len (mCons_len mNilL))))) xa_nil)) (hms := (mCons_len (mCons_len mNilL)))))) (xs_one (x_ret x_bl)) xs_nil)
    (xs_cons (x_set 6 sc_law.nd (x_bin opS_mod (x_ix (x_var 2) x_int) (x_var 3)))
    (xs_cons (x_set 7 sc_law.nd (x_ix (x_lst (xa_cons (x_call (takes_of rfl rfl rfl rfl) (ok__law_small T) (hr.mono (by decide)) T.g__law_small T.F__law_small.kp T.b__law_small (xa_cons (x_ix (x_var 2) x_int) xa_nil) (hms := (mCons_len mNilL))) (xa_cons (x_tup (xa_cons x_int (xa_cons x_int xa_nil))) xa_nil))) (x_biT callS_int T.z_int (by decide +kernel) (xa_cons (x_cmp opS_eq (x_bin opS_mod (x_ix (x_var 2) x_int) x_int) x_int) xa_nil))))
    (xs_one (x_if (XW.xt (xw_and (xt_cmp opS_gt (x_var 3) x_int) (xw_and1 (xt_not (x_truth (x_call (takes_of rfl rfl rfl rfl) (ok__law_same T 40) (hr.mono (by decide)) T.g__law_same T.F__law_same.kp T.b__law_same (xa_cons (x_call (takes_of rfl rfl rfl rfl) (ok_fixed T) (hr.mono (by decide)) T.g_fixed T.F_fixed.kp T.b_fixed (xa_cons (x_var 3) (xa_cons (x_var 4) (xa_cons (x_var 6) (xa_cons (x_var 7) xa_nil)))) (hms := (mCons_len (mCons_len (mCons_len (mCons_len mNilL)))))) (xa_cons (x_call (takes_of rfl rfl rfl rfl) (ok__law_fixed T) (hr.mono (by decide)) T.g__law_fixed T.F__law_fixed.kp T.b__law_fixed (xa_cons (x_var 4) (xa_cons (x_var 6) (xa_cons (x_var 7) xa_nil))) (hms := (mCons_len (mCons_len (mCons_len mNilL))))) xa_nil)) (hms := (mCons_len (mCons_len mNilL))))))))) (xs_one (x_ret x_bl)) xs_nil)))))))))))
    (xs_one (x_ret x_bl)))
end
end Gn
namespace Gn
open PySem PySem.Spec PyProof.Rows L2 Rf
set_option maxHeartbeats 4000000 in
theorem e_times {n : Nat} {x y : Rat} (hx : sz n x) (hy : sz n y) (S : Sto) (h0 : 0 < n := by omega) (hn : n ≤ 4000 := by omega) : F_times [nq x, nq y] S = some (.val (nq (x * y)) S) := by
  have p := mul_parts x y
  have g1 : (x.num.natAbs.gcd y.den : Nat) ≠ 0 := Nat.ne_of_gt (gcd_pos_r y.den_pos)
  have g2 : (y.num.natAbs.gcd x.den : Nat) ≠ 0 := Nat.ne_of_gt (gcd_pos_r x.den_pos)
  have s1 : szI n ((x.num.natAbs.gcd y.den : Nat) : Int) := hy.2.le (Nat.le_of_dvd y.den_pos (Nat.gcd_dvd_right _ _))
  have s2 : szI n ((y.num.natAbs.gcd x.den : Nat) : Int) := hx.2.le (Nat.le_of_dvd x.den_pos (Nat.gcd_dvd_right _ _))
  have d1 : divOk x.num ((x.num.natAbs.gcd y.den : Nat) : Int) = true := divOk_sz (by omega) s1
  have d2 : divOk y.num ((y.num.natAbs.gcd x.den : Nat) : Int) = true := divOk_sz (by omega) s2
  have d3 : divOk (x.den : Int) ((y.num.natAbs.gcd x.den : Nat) : Int) = true := divOk_sz (by omega) s2
  have d4 : divOk (y.den : Int) ((x.num.natAbs.gcd y.den : Nat) : Int) = true := divOk_sz (by omega) s1
  have m1 : mulOk (x.num / ((x.num.natAbs.gcd y.den : Nat) : Int)) (y.num / ((y.num.natAbs.gcd x.den : Nat) : Int)) = true := mulOk_sz (hx.1.le (Int.natAbs_ediv_le_natAbs _ _)) (hy.1.le (Int.natAbs_ediv_le_natAbs _ _))
  have m2 : mulOk ((x.den : Int) / ((y.num.natAbs.gcd x.den : Nat) : Int)) ((y.den : Int) / ((x.num.natAbs.gcd y.den : Nat) : Int)) = true := mulOk_sz (hx.2.le (Int.natAbs_ediv_le_natAbs _ _)) (hy.2.le (Int.natAbs_ediv_le_natAbs _ _))
  unfold F_times m_times
  have e1 := nq_of p.1.symm p.2.symm
  rw [← e1]
  unfold nq
  simp only [fnOf, sSeq, sSet, sAsg, sB, mB, mOp, mRet, mUn, mBi, mCons, mNil, mTup, tTp, tCons', tN, tNil', Option.bind_some, Option.map_some, List.map_cons, List.map_nil, List.length_cons, List.length_nil, List.replicate, List.cons_append, List.nil_append, sRet, var0, varS, set0, setS, gcd_ii, Int.natAbs_natCast, div_ii d1, div_ii d2, div_ii d3, div_ii d4, fdiv_nat, mul_ii m1, mul_ii m2, Nat.reduceAdd, Nat.reduceSub, Nat.reduceLeDiff, if_true]

/-! ### the law's own divisor -/
def ga (i : Int) : Int := if i < 0 then -i else i
theorem ga_nat (i : Int) : ga i = (i.natAbs : Int) := by
  unfold ga
  split <;> omega
theorem e_gcd_loop : ∀ (b n : Nat) (a : Nat) (S : Sto), b < n → loopW L0__law_gcd L1__law_gcd n [some (.int (a : Int)), some (.int (b : Int))] S = some (.nx [some (.int (Nat.gcd a b : Nat)), some (.int 0)] S) := by
  intro b
  induction b using Nat.strongRecOn with
  | _ b ih =>
    intro n a S hn
    obtain ⟨k, rfl⟩ : ∃ k, n = k + 1 := ⟨n - 1, by omega⟩
    by_cases c : b = 0
    · subst c
      refine (loopW_false (S1 := S) ?_).trans ?_
      · unfold L0__law_gcd
        simp only [fnOf, sSeq, sSet, sAsg, sB, mB, mOp, mRet, mUn, mBi, mCons, mNil, mTup, mCall, tTp, tCons', tN, tNil', Option.bind_some, Option.map_some, List.map_cons, List.map_nil, List.length_cons, List.length_nil, List.replicate, List.cons_append, List.nil_append, sRet, sIf, mT, mTru, mIf, mAnd, mOr, mNotB, sNil, sEx, sPar, var0, varS, set0, setS, ix0, ix1, add_ii, sub_ii, lt_ii, le_ii, gt_ii, ge_ii, eq_ii, ne_ii, neg_i, gcd_ii, abs_i, int_i, int_b, tru_b, Nat.reduceAdd, Nat.reduceSub, Nat.reduceLeDiff, if_true, show ((0 : Nat) : Int) = 0 from rfl, decide_true, Bool.not_true]
      · rw [Nat.gcd_zero_right]
        rfl
    · have hb : (b : Int) ≠ 0 := by omega
      have hb' : decide ((b : Int) = 0) = false := decide_eq_false hb
      have hm : (a : Int).fmod (b : Int) = ((a % b : Nat) : Int) := by
        rw [Int.fmod_eq_emod_of_nonneg _ (by omega)]
        rfl
      refine (loopW_true (S1 := S) (S' := S) (ρ' := [some (.int (b : Int)), some (.int ((a % b : Nat) : Int))]) ?_ ?_).trans ?_
      · unfold L0__law_gcd
        simp only [fnOf, sSeq, sSet, sAsg, sB, mB, mOp, mRet, mUn, mBi, mCons, mNil, mTup, mCall, tTp, tCons', tN, tNil', Option.bind_some, Option.map_some, List.map_cons, List.map_nil, List.length_cons, List.length_nil, List.replicate, List.cons_append, List.nil_append, sRet, sIf, mT, mTru, mIf, mAnd, mOr, mNotB, sNil, sEx, sPar, var0, varS, set0, setS, ix0, ix1, add_ii, sub_ii, lt_ii, le_ii, gt_ii, ge_ii, eq_ii, ne_ii, neg_i, gcd_ii, abs_i, int_i, int_b, tru_b, Nat.reduceAdd, Nat.reduceSub, Nat.reduceLeDiff, if_true, hb', Bool.not_false]
      · unfold L1__law_gcd
        simp only [fnOf, sSeq, sSet, sAsg, sB, mB, mOp, mRet, mUn, mBi, mCons, mNil, mTup, mCall, tTp, tCons', tN, tNil', Option.bind_some, Option.map_some, List.map_cons, List.map_nil, List.length_cons, List.length_nil, List.replicate, List.cons_append, List.nil_append, sRet, sIf, mT, mTru, mIf, mAnd, mOr, mNotB, sNil, sEx, sPar, var0, varS, set0, setS, ix0, ix1, add_ii, sub_ii, lt_ii, le_ii, gt_ii, ge_ii, eq_ii, ne_ii, neg_i, gcd_ii, abs_i, int_i, int_b, tru_b, Nat.reduceAdd, Nat.reduceSub, Nat.reduceLeDiff, if_true, mod_ii hb, hm]
      · rw [ih (a % b) (Nat.mod_lt _ (by omega)) k b S (by have := Nat.mod_lt a (show 0 < b by omega); omega)]
        rw [Nat.gcd_comm b, ← Nat.gcd_rec, Nat.gcd_comm]
theorem e_gcd {n : Nat} {a b : Int} (hb : szI n b) (S : Sto) (hn : n ≤ 1000000 := by omega) : F__law_gcd [.int a, .int b] S = some (.val (.int (Nat.gcd a.natAbs b.natAbs : Nat)) S) := by
  have hf : b.natAbs < fuel := lt_fuel hb (by omega)
  have l := e_gcd_loop b.natAbs fuel a.natAbs S hf
  unfold F__law_gcd m__law_gcd
  have e1 : (if a < 0 then -a else a) = (a.natAbs : Int) := ga_nat a
  have e2 : (if b < 0 then -b else b) = (b.natAbs : Int) := ga_nat b
  simp only [fnOf, sSeq, sSet, sAsg, sB, mB, mOp, mRet, mUn, mBi, mCons, mNil, mTup, mCall, tTp, tCons', tN, tNil', Option.bind_some, Option.map_some, List.map_cons, List.map_nil, List.length_cons, List.length_nil, List.replicate, List.cons_append, List.nil_append, sRet, sIf, mT, mTru, mIf, mAnd, mOr, mNotB, sNil, sEx, sPar, var0, varS, set0, setS, ix0, ix1, add_ii, sub_ii, lt_ii, le_ii, gt_ii, ge_ii, eq_ii, ne_ii, neg_i, gcd_ii, abs_i, int_i, int_b, tru_b, Nat.reduceAdd, Nat.reduceSub, Nat.reduceLeDiff, if_true, sWhile, e1, e2, l]
theorem frac_pos {a : Int} {b : Int} (hb : 0 < b) : (Rat.divInt a b).num = a / ((a.natAbs.gcd b.natAbs : Nat) : Int) ∧ ((Rat.divInt a b).den : Int) = b / ((a.natAbs.gcd b.natAbs : Nat) : Int) := by
  obtain ⟨m, rfl⟩ : ∃ m : Nat, b = m := ⟨b.toNat, by omega⟩
  have hm : m ≠ 0 := by omega
  rw [Rat.divInt_ofNat]
  unfold mkRat
  rw [dif_neg hm, Rat.normalize_eq]
  exact ⟨rfl, rfl⟩
theorem frac_neg {a : Int} {b : Int} (hb : b < 0) : (Rat.divInt a b).num = (-a) / ((a.natAbs.gcd b.natAbs : Nat) : Int) ∧ ((Rat.divInt a b).den : Int) = (-b) / ((a.natAbs.gcd b.natAbs : Nat) : Int) := by
  have h := frac_pos (a := -a) (b := -b) (by omega)
  rw [Int.natAbs_neg, Int.natAbs_neg] at h
  have e : Rat.divInt a b = Rat.divInt (-a) (-b) := by
    obtain ⟨m, rfl⟩ : ∃ m : Nat, b = Int.negSucc m := ⟨(-b - 1).toNat, by omega⟩
    show Rat.normalize (-a) m.succ (by omega) = mkRat (-a) (m + 1)
    unfold mkRat
    rw [dif_neg (by omega)]
  rw [e]
  exact h
theorem e_frac {n : Nat} {a b : Int} (hb0 : b ≠ 0) (hb : szI n b) (S : Sto) (h0 : 0 < n := by omega) (hn : n ≤ 9000 := by omega) : F__law_frac [.int a, .int b] S = some (.val (nq (Rat.divInt a b)) S) := by
  have eg := e_gcd (a := a) hb S (by omega)
  have g1 : (a.natAbs.gcd b.natAbs : Nat) ≠ 0 := Nat.ne_of_gt (gcd_pos_r (by omega))
  have sg : szI n ((a.natAbs.gcd b.natAbs : Nat) : Int) := hb.le (Nat.le_of_dvd (by omega) (Nat.gcd_dvd_right _ _))
  unfold F__law_frac m__law_frac
  by_cases c : b < 0
  · obtain ⟨p1, p2⟩ := frac_neg (a := a) c
    rw [← nq_of p1.symm p2.symm]
    have d1 : ∀ x, divOk x (-((a.natAbs.gcd b.natAbs : Nat) : Int)) = true := fun x => divOk_sz (by omega) sg.neg
    have n1 : ∀ x : Int, x.fdiv (-((a.natAbs.gcd b.natAbs : Nat) : Int)) = (-x) / ((a.natAbs.gcd b.natAbs : Nat) : Int) := fun x => by
      have := Int.neg_fdiv_neg (-x) ((a.natAbs.gcd b.natAbs : Nat) : Int)
      rw [Int.neg_neg] at this
      rw [this, fdiv_nat]
    simp only [fnOf, sSeq, sSet, sAsg, sB, mB, mOp, mRet, mUn, mBi, mCons, mNil, mTup, mCall, tTp, tCons', tN, tNil', Option.bind_some, Option.map_some, List.map_cons, List.map_nil, List.length_cons, List.length_nil, List.replicate, List.cons_append, List.nil_append, sRet, sIf, mT, mTru, mIf, mAnd, mOr, mNotB, sNil, sEx, sPar, var0, varS, set0, setS, ix0, ix1, add_ii, sub_ii, lt_ii, le_ii, gt_ii, ge_ii, eq_ii, ne_ii, neg_i, gcd_ii, abs_i, int_i, int_b, tru_b, Nat.reduceAdd, Nat.reduceSub, Nat.reduceLeDiff, if_true, eg, c, decide_true, div_ii (d1 _), n1]
  · obtain ⟨p1, p2⟩ := frac_pos (a := a) (b := b) (by omega)
    rw [← nq_of p1.symm p2.symm]
    have d1 : ∀ x, divOk x ((a.natAbs.gcd b.natAbs : Nat) : Int) = true := fun x => divOk_sz (by omega) sg
    simp only [fnOf, sSeq, sSet, sAsg, sB, mB, mOp, mRet, mUn, mBi, mCons, mNil, mTup, mCall, tTp, tCons', tN, tNil', Option.bind_some, Option.map_some, List.map_cons, List.map_nil, List.length_cons, List.length_nil, List.replicate, List.cons_append, List.nil_append, sRet, sIf, mT, mTru, mIf, mAnd, mOr, mNotB, sNil, sEx, sPar, var0, varS, set0, setS, ix0, ix1, add_ii, sub_ii, lt_ii, le_ii, gt_ii, ge_ii, eq_ii, ne_ii, neg_i, gcd_ii, abs_i, int_i, int_b, tru_b, Nat.reduceAdd, Nat.reduceSub, Nat.reduceLeDiff, if_true, eg, c, decide_false, div_ii (d1 _), fdiv_nat]
theorem sz_frac {n : Nat} {a b : Int} (hb0 : b ≠ 0) (ha : szI n a) (hb : szI n b) : sz n (Rat.divInt a b) := by
  by_cases c : b < 0
  · obtain ⟨p1, p2⟩ := frac_neg (a := a) c
    refine ⟨?_, ?_⟩
    · rw [p1]; exact ha.neg.le (Int.natAbs_ediv_le_natAbs _ _)
    · rw [p2]; exact hb.neg.le (Int.natAbs_ediv_le_natAbs _ _)
  · obtain ⟨p1, p2⟩ := frac_pos (a := a) (b := b) (by omega)
    refine ⟨?_, ?_⟩
    · rw [p1]; exact ha.le (Int.natAbs_ediv_le_natAbs _ _)
    · rw [p2]; exact hb.le (Int.natAbs_ediv_le_natAbs _ _)
/-! ### the script's cells and draws -/
theorem e_cell {ns : List Int} {k : Nat} (S : Sto) : ∃ c : Int, F__law_cell [.fro (ns.map D.int), .int (k : Int)] S = some (.val (.int c) S) := by
  unfold F__law_cell m__law_cell
  have hl : gLen [.fro (ns.map D.int)] S = some (.int (ns.length : Int), S) := by
    unfold gLen itemsOf
    simp
  by_cases c : k < ns.length
  · have c' : decide ((k : Int) < (ns.length : Int)) = true := decide_eq_true (by omega)
    refine ⟨ns[k], ?_⟩
    have hx : gIx (.fro (ns.map D.int)) (.int (k : Int)) S = some (.int ns[k], S) := by
      unfold gIx
      dsimp only
      show (some (ns.map D.int)).bind _ = _
      rw [Option.bind_some, atI_nat (v := .int ns[k]) (by rw [List.getElem?_map, List.getElem?_eq_getElem c]; rfl)]
      rfl
    simp only [fnOf, sSeq, sSet, sAsg, sB, mB, mOp, mRet, mUn, mBi, mCons, mNil, mTup, mCall, tTp, tCons', tN, tNil', Option.bind_some, Option.map_some, List.map_cons, List.map_nil, List.length_cons, List.length_nil, List.replicate, List.cons_append, List.nil_append, sRet, sIf, mT, mTru, mIf, mAnd, mOr, mNotB, sNil, sEx, sPar, var0, varS, set0, setS, ix0, ix1, add_ii, sub_ii, lt_ii, le_ii, gt_ii, ge_ii, eq_ii, ne_ii, neg_i, gcd_ii, abs_i, int_i, int_b, tru_b, Nat.reduceAdd, Nat.reduceSub, Nat.reduceLeDiff, if_true, hl, c', hx]
  · have c' : decide ((k : Int) < (ns.length : Int)) = false := decide_eq_false (by omega)
    exact ⟨0, by simp only [fnOf, sSeq, sSet, sAsg, sB, mB, mOp, mRet, mUn, mBi, mCons, mNil, mTup, mCall, tTp, tCons', tN, tNil', Option.bind_some, Option.map_some, List.map_cons, List.map_nil, List.length_cons, List.length_nil, List.replicate, List.cons_append, List.nil_append, sRet, sIf, mT, mTru, mIf, mAnd, mOr, mNotB, sNil, sEx, sPar, var0, varS, set0, setS, ix0, ix1, add_ii, sub_ii, lt_ii, le_ii, gt_ii, ge_ii, eq_ii, ne_ii, neg_i, gcd_ii, abs_i, int_i, int_b, tru_b, Nat.reduceAdd, Nat.reduceSub, Nat.reduceLeDiff, if_true, hl, c']⟩
theorem mulOk_r {i : Int} {n : Nat} (h : n < 2 ^ 63) : mulOk i (n : Int) = true := by
  unfold mulOk
  rw [Bool.or_eq_true, Bool.or_eq_true]
  exact .inl (.inr (decide_eq_true (by omega)))
theorem mulOk_l {i j : Int} (h : i.natAbs < 2 ^ 63) : mulOk i j = true := by
  unfold mulOk
  rw [Bool.or_eq_true, Bool.or_eq_true]
  exact .inl (.inl (decide_eq_true h))
theorem divOk_lit {i j : Int} (h : j ≠ 0) (h2 : j.natAbs < 2 ^ 63) : divOk i j = true := divOk_sz (n := 63) h h2
theorem fm {x m : Int} (h : 0 < m) : 0 ≤ x.fmod m ∧ x.fmod m < m := by
  rw [Int.fmod_eq_emod_of_nonneg _ (by omega)]
  exact ⟨Int.emod_nonneg _ (by omega), Int.emod_lt_of_pos _ h⟩
theorem e_draw_turn {cell left k : Int} {count : D} {x4 x5 : Option D} {S : Sto} {rows : List D} (hr : rows.length < 1000) (hk : k.natAbs < 2 ^ 60) : ∃ (r left' : Int) (x5' : Option D), 0 ≤ r ∧ r < 4096 ∧
    L0__law_draws [some (.int cell), some count, some (.ref S.length), some (.int left), some (.int k), x5] (S ++ [.lst rows]) = some (.nx [some (.int cell), some count, some (.ref S.length), some (.int left'), some (.int k), x5'] (S ++ [.lst (rows ++ [.int r])])) := by
  unfold L0__law_draws
  have d1 : ∀ i : Int, gDiv (.int i) (.int 4096) (S ++ [.lst (rows ++ [.int (left.fmod 4096)])]) = some (.int (i.fdiv 4096), S ++ [.lst (rows ++ [.int (left.fmod 4096)])]) := fun i => div_ii (divOk_lit (by decide) (by decide))
  by_cases c : 1000000000000000000 ≤ cell ∧ 0 < left
  · refine ⟨left.fmod 4096, left.fdiv 4096, x5, (fm (by decide)).1, (fm (by decide)).2, ?_⟩
    have ap := app_last (mo := mVar 2) (me := mOp gMod (mBi gInt (mCons (mVar 3) mNil)) (mRet (.int 4096))) (ρ := [some (.int cell), some count, some (.ref S.length), some (.int left), some (.int k), x5]) (S := S) (k := S.length) (xs := rows) (d := .int (left.fmod 4096)) rfl (by simp only [fnOf, sSeq, sSet, sAsg, sB, mB, mOp, mRet, mUn, mBi, mCons, mNil, mTup, mCall, tTp, tCons', tN, tNil', Option.bind_some, Option.map_some, List.map_cons, List.map_nil, List.length_cons, List.length_nil, List.replicate, List.cons_append, List.nil_append, sRet, sIf, mT, mTru, mIf, mAnd, mOr, mNotB, sNil, sEx, sPar, var0, varS, set0, setS, ix0, ix1, add_ii, sub_ii, lt_ii, le_ii, gt_ii, ge_ii, eq_ii, ne_ii, neg_i, gcd_ii, abs_i, int_i, int_b, tru_b, Nat.reduceAdd, Nat.reduceSub, Nat.reduceLeDiff, if_true]) (by simp only [fnOf, sSeq, sSet, sAsg, sB, mB, mOp, mRet, mUn, mBi, mCons, mNil, mTup, mCall, tTp, tCons', tN, tNil', Option.bind_some, Option.map_some, List.map_cons, List.map_nil, List.length_cons, List.length_nil, List.replicate, List.cons_append, List.nil_append, sRet, sIf, mT, mTru, mIf, mAnd, mOr, mNotB, sNil, sEx, sPar, var0, varS, set0, setS, ix0, ix1, add_ii, sub_ii, lt_ii, le_ii, gt_ii, ge_ii, eq_ii, ne_ii, neg_i, gcd_ii, abs_i, int_i, int_b, tru_b, Nat.reduceAdd, Nat.reduceSub, Nat.reduceLeDiff, if_true, mod_ii (show (4096 : Int) ≠ 0 by decide)]) (by omega)
    simp only [mOp, mB, mBi, mCons, mNil, mRet] at ap
    simp only [fnOf, sSeq, sSet, sAsg, sB, mB, mOp, mRet, mUn, mBi, mCons, mNil, mTup, mCall, tTp, tCons', tN, tNil', Option.bind_some, Option.map_some, List.map_cons, List.map_nil, List.length_cons, List.length_nil, List.replicate, List.cons_append, List.nil_append, sRet, sIf, mT, mTru, mIf, mAnd, mOr, mNotB, sNil, sEx, sPar, var0, varS, set0, setS, ix0, ix1, add_ii, sub_ii, lt_ii, le_ii, gt_ii, ge_ii, eq_ii, ne_ii, neg_i, gcd_ii, abs_i, int_i, int_b, tru_b, Nat.reduceAdd, Nat.reduceSub, Nat.reduceLeDiff, if_true, pow_1018, c.1, c.2, decide_true, ap, d1]
  · have e48 : gMul (.int cell) (.int 48271) (S ++ [.lst rows]) = some (.int (cell * 48271), S ++ [.lst rows]) := mul_ii (mulOk_r (n := 48271) (by decide))
    have e69 : gMul (.int (k + 1)) (.int 69621) (S ++ [.lst rows]) = some (.int ((k + 1) * 69621), S ++ [.lst rows]) := mul_ii (mulOk_r (n := 69621) (by decide))
    have e79 : gMul (.int k) (.int 7919) (S ++ [.lst rows]) = some (.int (k * 7919), S ++ [.lst rows]) := mul_ii (mulOk_r (n := 7919) (by decide))
    have e13 : gMul (.int 13) (.int k) (S ++ [.lst rows]) = some (.int (13 * k), S ++ [.lst rows]) := mul_ii (mulOk_l (by decide))
    have b1 := fm (x := cell * 48271 + (k + 1) * 69621) (m := 2147483647) (by decide)
    generalize hm1 : (cell * 48271 + (k + 1) * 69621).fmod 2147483647 = m1 at b1
    have q1 : gMul (.int m1) (.int m1) (S ++ [.lst rows]) = some (.int (m1 * m1), S ++ [.lst rows]) := mul_ii (mulOk_l (by omega))
    have q2 : gMul (.int m1) (.int 16807) (S ++ [.lst rows]) = some (.int (m1 * 16807), S ++ [.lst rows]) := mul_ii (mulOk_l (by omega))
    have b2 := fm (x := m1 * m1 + m1 * 16807 + k * 7919) (m := 2147483629) (by decide)
    generalize hm2 : (m1 * m1 + m1 * 16807 + k * 7919).fmod 2147483629 = m2 at b2
    have q3 : gMul (.int m2) (.int m2) (S ++ [.lst rows]) = some (.int (m2 * m2), S ++ [.lst rows]) := mul_ii (mulOk_l (by omega))
    generalize hm3 : (m2 * m2 + cell + 13 * k).fmod 2147483587 = m3
    have q7 : ∀ S' : Sto, gDiv (.int m3) (.int 7) S' = some (.int (m3.fdiv 7), S') := fun S' => div_ii (divOk_lit (by decide) (by decide))
    have o1 : ∀ x S', gMod (.int x) (.int 2147483647) S' = some (.int (x.fmod 2147483647), S') := fun x S' => mod_ii (by decide)
    have o2 : ∀ x S', gMod (.int x) (.int 2147483629) S' = some (.int (x.fmod 2147483629), S') := fun x S' => mod_ii (by decide)
    have o3 : ∀ x S', gMod (.int x) (.int 2147483587) S' = some (.int (x.fmod 2147483587), S') := fun x S' => mod_ii (by decide)
    have o4 : ∀ x S', gMod (.int x) (.int 4096) S' = some (.int (x.fmod 4096), S') := fun x S' => mod_ii (by decide)
    refine ⟨(m3.fdiv 7).fmod 4096, left, some (.int m3), (fm (by decide)).1, (fm (by decide)).2, ?_⟩
    have ap := app_last (mo := mVar 2) (me := mOp gMod (mOp gDiv (mVar 5) (mRet (.int 7))) (mRet (.int 4096))) (ρ := [some (.int cell), some count, some (.ref S.length), some (.int left), some (.int k), some (.int m3)]) (S := S) (k := S.length) (xs := rows) (d := .int ((m3.fdiv 7).fmod 4096)) rfl (by simp only [fnOf, sSeq, sSet, sAsg, sB, mB, mOp, mRet, mUn, mBi, mCons, mNil, mTup, mCall, tTp, tCons', tN, tNil', Option.bind_some, Option.map_some, List.map_cons, List.map_nil, List.length_cons, List.length_nil, List.replicate, List.cons_append, List.nil_append, sRet, sIf, mT, mTru, mIf, mAnd, mOr, mNotB, sNil, sEx, sPar, var0, varS, set0, setS, ix0, ix1, add_ii, sub_ii, lt_ii, le_ii, gt_ii, ge_ii, eq_ii, ne_ii, neg_i, gcd_ii, abs_i, int_i, int_b, tru_b, Nat.reduceAdd, Nat.reduceSub, Nat.reduceLeDiff, if_true]) (by simp only [fnOf, sSeq, sSet, sAsg, sB, mB, mOp, mRet, mUn, mBi, mCons, mNil, mTup, mCall, tTp, tCons', tN, tNil', Option.bind_some, Option.map_some, List.map_cons, List.map_nil, List.length_cons, List.length_nil, List.replicate, List.cons_append, List.nil_append, sRet, sIf, mT, mTru, mIf, mAnd, mOr, mNotB, sNil, sEx, sPar, var0, varS, set0, setS, ix0, ix1, add_ii, sub_ii, lt_ii, le_ii, gt_ii, ge_ii, eq_ii, ne_ii, neg_i, gcd_ii, abs_i, int_i, int_b, tru_b, Nat.reduceAdd, Nat.reduceSub, Nat.reduceLeDiff, if_true, q7, o4]) (by omega)
    simp only [mOp, mB, mRet] at ap
    by_cases c1 : 1000000000000000000 ≤ cell
    · have c2 : decide (0 < left) = false := decide_eq_false (by omega)
      simp only [fnOf, sSeq, sSet, sAsg, sB, mB, mOp, mRet, mUn, mBi, mCons, mNil, mTup, mCall, tTp, tCons', tN, tNil', Option.bind_some, Option.map_some, List.map_cons, List.map_nil, List.length_cons, List.length_nil, List.replicate, List.cons_append, List.nil_append, sRet, sIf, mT, mTru, mIf, mAnd, mOr, mNotB, sNil, sEx, sPar, var0, varS, set0, setS, ix0, ix1, add_ii, sub_ii, lt_ii, le_ii, gt_ii, ge_ii, eq_ii, ne_ii, neg_i, gcd_ii, abs_i, int_i, int_b, tru_b, Nat.reduceAdd, Nat.reduceSub, Nat.reduceLeDiff, if_true, pow_1018, c1, c2, decide_true, e48, e69, e79, e13, o1, o2, o3, hm1, hm2, hm3, q1, q2, q3, ap]
    · simp only [fnOf, sSeq, sSet, sAsg, sB, mB, mOp, mRet, mUn, mBi, mCons, mNil, mTup, mCall, tTp, tCons', tN, tNil', Option.bind_some, Option.map_some, List.map_cons, List.map_nil, List.length_cons, List.length_nil, List.replicate, List.cons_append, List.nil_append, sRet, sIf, mT, mTru, mIf, mAnd, mOr, mNotB, sNil, sEx, sPar, var0, varS, set0, setS, ix0, ix1, add_ii, sub_ii, lt_ii, le_ii, gt_ii, ge_ii, eq_ii, ne_ii, neg_i, gcd_ii, abs_i, int_i, int_b, tru_b, Nat.reduceAdd, Nat.reduceSub, Nat.reduceLeDiff, if_true, pow_1018, c1, decide_false, e48, e69, e79, e13, o1, o2, o3, hm1, hm2, hm3, q1, q2, q3, ap]
theorem e_draw_loop {cell : Int} {count : D} {S : Sto} : ∀ (n : Nat) (lo left : Int) (x4 x5 : Option D) (rows : List D), rows.length + n < 1000 → 0 ≤ lo → lo + (n : Int) < 2 ^ 40 → ∃ (new : List Int) (left' : Int) (x4' x5' : Option D), new.length = n ∧ (∀ r ∈ new, 0 ≤ r ∧ r < 4096) ∧
    forI (tN 4) L0__law_draws (rngD lo n) [some (.int cell), some count, some (.ref S.length), some (.int left), x4, x5] (S ++ [.lst rows]) = some (.nx [some (.int cell), some count, some (.ref S.length), some (.int left'), x4', x5'] (S ++ [.lst (rows ++ new.map D.int)]))
  | 0, lo, left, x4, x5, rows, h, h1, h2 => ⟨[], left, x4, x5, rfl, fun r hr => absurd hr (by simp), by rw [List.map_nil, List.append_nil]; rfl⟩
  | n + 1, lo, left, x4, x5, rows, h, h1, h2 => by
    obtain ⟨r, left1, x5', r0, r1, e⟩ := e_draw_turn (cell := cell) (left := left) (k := lo) (count := count) (x4 := x4) (x5 := x5) (S := S) (rows := rows) (by omega) (by omega)
    obtain ⟨new, left2, x4'', x5'', hl, hb, e2⟩ := e_draw_loop n (lo + 1) left1 (some (.int lo)) x5' (rows ++ [.int r]) (by rw [List.length_append, List.length_singleton]; omega) (by omega) (by omega)
    refine ⟨r :: new, left2, x4'', x5'', by rw [List.length_cons, hl], fun z hz => ?_, ?_⟩
    · rcases List.mem_cons.mp hz with rfl | hz
      · exact ⟨r0, r1⟩
      · exact hb z hz
    · rw [rngD_succ]
      refine (forI_nx (ρ1 := [some (.int cell), some count, some (.ref S.length), some (.int left), some (.int lo), x5]) rfl e).trans ?_
      rw [e2, List.map_cons, List.append_assoc, List.singleton_append]
/-- so many draws, each from 0 to 4095 -/
theorem e_draws (cell : Int) (n : Nat) (S : Sto) (hn : n < 900) : ∃ new : List Int, new.length = n ∧ (∀ r ∈ new, 0 ≤ r ∧ r < 4096) ∧ F__law_draws [.int cell, .int (n : Int)] S = some (.val (.ref S.length) (S ++ [.lst (new.map D.int)])) := by
  obtain ⟨new, left', x4', x5', hl, hb, e⟩ := e_draw_loop (cell := cell) (count := .int (n : Int)) (S := S) n 0 cell none none [] (by rw [List.length_nil]; omega) (by omega) (by omega)
  refine ⟨new, hl, hb, ?_⟩
  unfold F__law_draws m__law_draws
  have er : mRng1 (mCons (mVar 1) mNil) [some (.int cell), some (.int (n : Int)), some (.ref S.length), some (.int cell), none, none] (S ++ [.lst []]) = some (.val (sqIt (rngD 0 n)) (S ++ [.lst []])) := by
    refine (mRng1_eq (S1 := S ++ [.lst []]) (n := (n : Int)) (by simp only [fnOf, sSeq, sSet, sAsg, sB, mB, mOp, mRet, mUn, mBi, mCons, mNil, mTup, mCall, tTp, tCons', tN, tNil', Option.bind_some, Option.map_some, List.map_cons, List.map_nil, List.length_cons, List.length_nil, List.replicate, List.cons_append, List.nil_append, sRet, sIf, mT, mTru, mIf, mAnd, mOr, mNotB, sNil, sEx, sPar, var0, varS, set0, setS, ix0, ix1, add_ii, sub_ii, lt_ii, le_ii, gt_ii, ge_ii, eq_ii, ne_ii, neg_i, gcd_ii, abs_i, int_i, int_b, tru_b, Nat.reduceAdd, Nat.reduceSub, Nat.reduceLeDiff, if_true]) ?_).trans ?_
    · unfold rngOk
      rw [Bool.and_eq_true]
      exact ⟨decide_eq_true (by omega), decide_eq_true (by omega)⟩
    · rfl
  have ef := for_items (t := tN 4) (b := L0__law_draws) er (by
    unfold rngD
    rw [List.length_map, List.length_range]
    exact lt_fuel (show n < 2 ^ 10 by omega) (by omega))
  refine fn_ret ?_
  refine seq_nx (set_eq (d := .ref S.length) (S1 := S ++ [.lst []]) (by simp only [fnOf, sSeq, sSet, sAsg, sB, mB, mOp, mRet, mUn, mBi, mCons, mNil, mTup, mCall, tTp, tCons', tN, tNil', Option.bind_some, Option.map_some, List.map_cons, List.map_nil, List.length_cons, List.length_nil, List.replicate, List.cons_append, List.nil_append, sRet, sIf, mT, mTru, mIf, mAnd, mOr, mNotB, sNil, sEx, sPar, var0, varS, set0, setS, ix0, ix1, add_ii, sub_ii, lt_ii, le_ii, gt_ii, ge_ii, eq_ii, ne_ii, neg_i, gcd_ii, abs_i, int_i, int_b, tru_b, Nat.reduceAdd, Nat.reduceSub, Nat.reduceLeDiff, if_true, mLst, mNew])) ?_
  refine seq_nx (set_eq (d := .int cell) (S1 := S ++ [.lst []]) (by simp only [fnOf, sSeq, sSet, sAsg, sB, mB, mOp, mRet, mUn, mBi, mCons, mNil, mTup, mCall, tTp, tCons', tN, tNil', Option.bind_some, Option.map_some, List.map_cons, List.map_nil, List.length_cons, List.length_nil, List.replicate, List.cons_append, List.nil_append, sRet, sIf, mT, mTru, mIf, mAnd, mOr, mNotB, sNil, sEx, sPar, var0, varS, set0, setS, ix0, ix1, add_ii, sub_ii, lt_ii, le_ii, gt_ii, ge_ii, eq_ii, ne_ii, neg_i, gcd_ii, abs_i, int_i, int_b, tru_b, Nat.reduceAdd, Nat.reduceSub, Nat.reduceLeDiff, if_true])) ?_
  refine seq_nx (ef.trans e) ?_
  exact ret_eq (by simp only [fnOf, sSeq, sSet, sAsg, sB, mB, mOp, mRet, mUn, mBi, mCons, mNil, mTup, mCall, tTp, tCons', tN, tNil', Option.bind_some, Option.map_some, List.map_cons, List.map_nil, List.length_cons, List.length_nil, List.replicate, List.cons_append, List.nil_append, sRet, sIf, mT, mTru, mIf, mAnd, mOr, mNotB, sNil, sEx, sPar, var0, varS, set0, setS, ix0, ix1, add_ii, sub_ii, lt_ii, le_ii, gt_ii, ge_ii, eq_ii, ne_ii, neg_i, gcd_ii, abs_i, int_i, int_b, tru_b, Nat.reduceAdd, Nat.reduceSub, Nat.reduceLeDiff, if_true, List.nil_append])
end Gn

namespace Gn
open PySem PySem.Spec PyProof.Rows L2 Rf
/-! ### the law's equality -/
def dOk : Nat → D → Prop
  | 0, _ => False
  | _ + 1, .int _ => True
  | k + 1, .tup xs => xs.length < 900 ∧ ∀ x ∈ xs, dOk k x
  | _ + 1, _ => False
theorem e_is_int (i : Int) (S : Sto) : F__law_is_int [.int i] S = some (.val (.bl true) S) := by
  unfold F__law_is_int m__law_is_int
  have a1 : gIsi [.int i, .ty "int"] S = some (.bl true, S) := isi rfl kit3
  have a2 : gIsi [.int i, .ty "bool"] S = some (.bl false, S) := isi rfl kit4
  simp only [fnOf, sSeq, sSet, sAsg, sB, mB, mOp, mRet, mUn, mBi, mCons, mNil, mTup, mCall, tTp, tCons', tN, tNil', Option.bind_some, Option.map_some, List.map_cons, List.map_nil, List.length_cons, List.length_nil, List.replicate, List.cons_append, List.nil_append, sRet, sIf, mT, mTru, mIf, mAnd, mOr, mNotB, sNil, sEx, sPar, var0, varS, set0, setS, ix0, ix1, add_ii, sub_ii, lt_ii, le_ii, gt_ii, ge_ii, eq_ii, ne_ii, neg_i, gcd_ii, abs_i, int_i, int_b, tru_b, Nat.reduceAdd, Nat.reduceSub, Nat.reduceLeDiff, if_true, mAndV, a1, a2, gNot, Bool.not_false]
theorem e_is_number (i : Int) (S : Sto) : F__law_is_number [.int i, .int i] S = some (.val (.bl true) S) := by
  unfold F__law_is_number m__law_is_number
  simp only [fnOf, sSeq, sSet, sAsg, sB, mB, mOp, mRet, mUn, mBi, mCons, mNil, mTup, mCall, tTp, tCons', tN, tNil', Option.bind_some, Option.map_some, List.map_cons, List.map_nil, List.length_cons, List.length_nil, List.replicate, List.cons_append, List.nil_append, sRet, sIf, mT, mTru, mIf, mAnd, mOr, mNotB, sNil, sEx, sPar, var0, varS, set0, setS, ix0, ix1, add_ii, sub_ii, lt_ii, le_ii, gt_ii, ge_ii, eq_ii, ne_ii, neg_i, gcd_ii, abs_i, int_i, int_b, tru_b, Nat.reduceAdd, Nat.reduceSub, Nat.reduceLeDiff, if_true, mAndV, e_is_int, decide_true]
theorem e_same : ∀ (k : Nat) (d : D), dOk k d → ∀ S : Sto, ∃ G, F__law_same k [d, d] S = some (.val (.bl true) (S ++ G))
  | 0, _, h, _ => absurd h (by unfold dOk; exact fun z => z)
  | k + 1, d, h, S => by
    unfold F__law_same m__law_same
    cases d with
    | int i =>
      have a1 : gIsi [.int i, .ty "tuple"] S = some (.bl false, S) := isi rfl kit1
      have a2 : gIsi [.int i, .ty "list"] S = some (.bl false, S) := isi rfl kit2
      have a3 : gIsi [.int i, .ty "int"] S = some (.bl true, S) := isi rfl kit3
      have b1 : gIs (.int i) .non S = some (.bl false, S) := rfl
      have b2 : gIs (.int i) (.bl true) S = some (.bl false, S) := rfl
      have b3 : gIs (.int i) (.bl false) S = some (.bl false, S) := rfl
      refine ⟨[], ?_⟩
      rw [List.append_nil]
      refine fn_ret ?_
      refine seq_nx (skip (v_T (v_bi (v_cons (v_var rfl) (v_cons v_ret v_nil)) a1))) ?_
      refine seq_nx (skip (v_T (v_bi (v_cons (v_var rfl) (v_cons v_ret v_nil)) a2))) ?_
      refine seq_nx (skip (v_T (v_op (v_var rfl) v_ret b1))) ?_
      refine seq_nx (skip (v_T (v_op (v_var rfl) v_ret b2))) ?_
      refine seq_nx (skip (v_T (v_op (v_var rfl) v_ret b3))) ?_
      refine seq_ret (if_t (v_T (v_bi (v_cons (v_var rfl) (v_cons v_ret v_nil)) a3)) (ret_eq (v_call (v_cons (v_var rfl) (v_cons (v_var rfl) v_nil)) (e_is_number i S))))
    | tup xs =>
      obtain ⟨hl, hx⟩ := h
      have a1 : gIsi [.tup xs, .ty "tuple"] S = some (.bl true, S) := isi rfl kit5
      obtain ⟨G, e⟩ := lc_none (vs := [2]) (t := tN 2) (it := mRng1 (mCons (mBi gLen (mCons (mVar 1) mNil)) mNil)) (c := mNotB (mTru (mCall (F__law_same k) (mCons (mOp gIx (mVar 0) (mVar 2)) (mCons (mOp gIx (mVar 1) (mVar 2)) mNil))))) (el := mVar 2)
        (ρ := [some (.tup xs), some (.tup xs), none]) (S := S) (S1 := S) (xs := rngD 0 xs.length)
        (mRng1_eq (n := (xs.length : Int)) (v_cons (v_bi (v_cons (v_var rfl) v_nil) len_tup) v_nil) (rngOk_nat (by omega))) (by rw [rngD_len]; exact lt_fuel (k := 10) (by omega) (by omega)) (fun x hxm S' => by
          obtain ⟨j, hj, rfl⟩ := rngD_mem hxm
          obtain ⟨G', e'⟩ := e_same k xs[j] (hx _ (List.getElem_mem hj)) S'
          refine ⟨_, G', rfl, ?_⟩
          have gx : gIx (.tup xs) (.int (j : Int)) S' = some (xs[j], S') := ixT (List.getElem?_eq_getElem hj)
          exact v_not (k := true) (v_tru (v_call (v_cons (v_op (v_var rfl) (v_var rfl) gx) (v_cons (v_op (v_var rfl) (v_var rfl) gx) v_nil)) e') rfl))
      refine ⟨.lst [] :: G, ?_⟩
      refine fn_ret ?_
      refine seq_ret (if_t (v_T (v_bi (v_cons (v_var rfl) (v_cons v_ret v_nil)) a1)) ?_)
      refine seq_nx (skip (v_or_f (v_not (k := true) (v_T (v_bi (v_cons (v_var rfl) (v_cons v_ret v_nil)) a1))) (v_T (v_op (v_bi (v_cons (v_var rfl) v_nil) len_tup) (v_bi (v_cons (v_var rfl) v_nil) len_tup) (by rw [ne_ii, decide_eq_true rfl]; rfl))))) ?_
      exact ret_eq (v_op (v_bi (v_cons e v_nil) (len_ref nth_last)) v_ret rfl)
    | _ => exact absurd h (by unfold dOk; exact fun z => z)
/-! ### the law's fractions -/
theorem dOk_nq (q : Rat) : dOk 3 (nq q) := by
  unfold nq
  refine ⟨by show 2 < 900; decide, fun x hx => ?_⟩
  rcases List.mem_cons.mp hx with rfl | hx
  · exact trivial
  · rcases List.mem_cons.mp hx with rfl | hx
    · exact trivial
    · cases hx
theorem e_same_q (q : Rat) (S : Sto) {k : Nat} (hk : 3 ≤ k := by omega) : True := trivial
theorem ix_n (q : Rat) (S : Sto) : gIx (nq q) (.int 0) S = some (.int q.num, S) := ix0
theorem ix_d (q : Rat) (S : Sto) : gIx (nq q) (.int 1) S = some (.int (q.den : Int), S) := ix1
theorem rat_parts (q : Rat) : Rat.divInt q.num q.den = q := Rat.num_divInt_den q
theorem e_law_add {n : Nat} {x y : Rat} (hx : sz n x) (hy : sz n y) (S : Sto) (h0 : 0 < n := by omega) (hn : n ≤ 4000 := by omega) : F__law_add [nq x, nq y] S = some (.val (nq (x + y)) S) := by
  have m1 := mulOk_sz hx.1 hy.2
  have m2 := mulOk_sz hy.1 hx.2
  have m3 := mulOk_sz hx.2 hy.2
  have dz : (x.den : Int) * (y.den : Int) ≠ 0 := Int.mul_ne_zero (den_ne x) (den_ne y)
  have f := e_frac (a := x.num * (y.den : Int) + y.num * (x.den : Int)) dz (hx.2.mul hy.2) S (by omega) (by omega)
  have e : Rat.divInt (x.num * (y.den : Int) + y.num * (x.den : Int)) ((x.den : Int) * (y.den : Int)) = x + y := by
    rw [← Rat.divInt_add_divInt x.num y.num (den_ne x) (den_ne y), rat_parts, rat_parts]
  rw [e] at f
  unfold F__law_add m__law_add
  exact fn_ret (ret_eq (v_call (v_cons (v_op (v_op (v_op (v_var rfl) v_ret (ix_n x S)) (v_op (v_var rfl) v_ret (ix_d y S)) (mul_ii m1)) (v_op (v_op (v_var rfl) v_ret (ix_n y S)) (v_op (v_var rfl) v_ret (ix_d x S)) (mul_ii m2)) add_ii) (v_cons (v_op (v_op (v_var rfl) v_ret (ix_d x S)) (v_op (v_var rfl) v_ret (ix_d y S)) (mul_ii m3)) v_nil)) f))
theorem e_law_mul {n : Nat} {x y : Rat} (hx : sz n x) (hy : sz n y) (S : Sto) (h0 : 0 < n := by omega) (hn : n ≤ 4000 := by omega) : F__law_mul [nq x, nq y] S = some (.val (nq (x * y)) S) := by
  have m1 := mulOk_sz hx.1 hy.1
  have m3 := mulOk_sz hx.2 hy.2
  have dz : (x.den : Int) * (y.den : Int) ≠ 0 := Int.mul_ne_zero (den_ne x) (den_ne y)
  have f := e_frac (a := x.num * y.num) dz (hx.2.mul hy.2) S (by omega) (by omega)
  have e : Rat.divInt (x.num * y.num) ((x.den : Int) * (y.den : Int)) = x * y := by
    rw [← Rat.divInt_mul_divInt, rat_parts, rat_parts]
  rw [e] at f
  unfold F__law_mul m__law_mul
  exact fn_ret (ret_eq (v_call (v_cons (v_op (v_op (v_var rfl) v_ret (ix_n x S)) (v_op (v_var rfl) v_ret (ix_n y S)) (mul_ii m1)) (v_cons (v_op (v_op (v_var rfl) v_ret (ix_d x S)) (v_op (v_var rfl) v_ret (ix_d y S)) (mul_ii m3)) v_nil)) f))
/-- a drawn small number -/
theorem e_law_small (r : Int) (S : Sto) : ∃ q : Rat, sz 6 q ∧ F__law_small [.int r] S = some (.val (nq q) S) := by
  have b1 := fm (x := r) (m := 19) (by decide)
  have b2 := fm (x := r.fdiv 19) (m := 4) (by decide)
  have z : 1 + (r.fdiv 19).fmod 4 ≠ 0 := by omega
  have s2 : szI 6 (1 + (r.fdiv 19).fmod 4) := by
    unfold szI
    omega
  have s1 : szI 6 (r.fmod 19 - 9) := by
    unfold szI
    omega
  refine ⟨_, sz_frac z s1 s2, ?_⟩
  unfold F__law_small m__law_small
  exact fn_ret (ret_eq (v_call (v_cons (v_op (v_op (v_var rfl) v_ret (mod_ii (by decide))) v_ret sub_ii) (v_cons (v_op v_ret (v_op (v_op (v_var rfl) v_ret (div_ii (divOk_lit (by decide) (by decide)))) v_ret (mod_ii (by decide))) add_ii) v_nil)) (e_frac z s2 S)))
end Gn

namespace Gn
open PySem PySem.Spec PyProof.Rows L2 Rf
/-- an interval -/
def ni (l h : Rat) : D := .tup [nq l, nq h]
theorem ix_l (l h : Rat) (S : Sto) : gIx (ni l h) (.int 0) S = some (nq l, S) := ix0
theorem ix_h (l h : Rat) (S : Sto) : gIx (ni l h) (.int 1) S = some (nq h, S) := ix1
theorem two_le {a b : D} : [a, b].length ≤ 1000 := by show 2 ≤ 1000; decide
theorem v_pair {ρ : Rf.Env} {S S1 S2 : Sto} {ma mb : M D} {a b : D} (ha : ma ρ S = some (.val a S1)) (hb : mb ρ S1 = some (.val b S2)) : mTup (mCons ma (mCons mb mNil)) ρ S = some (.val (.tup [a, b]) S2) := v_tup (v_cons ha (v_cons hb v_nil)) two_le
theorem v_ife_t {ρ : Rf.Env} {S S1 : Sto} {mc : M Bool} {ma mb : M D} {r : Option (R D)} (h : mc ρ S = some (.val true S1)) (k : ma ρ S1 = r) : mIf mc ma mb ρ S = r := by
  unfold mIf mB
  simp only [h, k]
theorem v_ife_f {ρ : Rf.Env} {S S1 : Sto} {mc : M Bool} {ma mb : M D} {r : Option (R D)} (h : mc ρ S = some (.val false S1)) (k : mb ρ S1 = r) : mIf mc ma mb ρ S = r := by
  unfold mIf mB
  simp only [h, k]
theorem sz_ite {n : Nat} {x y : Rat} {p : Prop} [Decidable p] (hx : sz n x) (hy : sz n y) : sz n (if p then x else y) := by
  by_cases c : p
  · rw [if_pos c]; exact hx
  · rw [if_neg c]; exact hy
end Gn

namespace Gn
open PySem PySem.Spec PyProof.Rows L2 Rf
/-! ### powers -/
theorem _root_.Rf.szI.pow {n : Nat} {a : Int} (h : szI n a) : ∀ e : Nat, szI (n * e + 1) (a ^ e)
  | 0 => by show (a ^ 0).natAbs < 2 ^ (n * 0 + 1); rw [Int.pow_zero]; exact Nat.one_lt_two_pow (by omega)
  | e + 1 => by
    have := (Rf.szI.pow h e).mul h
    rw [Int.pow_succ]
    exact this.mono (by rw [Nat.mul_succ]; omega)
theorem and_one (x : Nat) : Builtin.bitAnd (x : Int) 1 = ((x % 2 : Nat) : Int) := by
  unfold Builtin.bitAnd
  rw [decide_eq_true (by omega : (0 : Int) ≤ (x : Int))]
  show (((x : Int).toNat &&& 1 : Nat) : Int) = _
  rw [Int.toNat_natCast, Nat.and_one_is_mod]
theorem and1_ii {x : Nat} {S : Sto} : gAnd (.int (x : Int)) (.int 1) S = some (.int ((x % 2 : Nat) : Int), S) := by
  unfold gAnd gI
  dsimp only
  rw [if_pos rfl, and_one]
theorem shr_ii {x m : Nat} {S : Sto} : gShr (.int (x : Int)) (.int (m : Int)) S = some (.int ((x / 2 ^ m : Nat) : Int), S) := by
  unfold gShr gI
  dsimp only
  rw [if_pos (decide_eq_true (by omega)), Int.toNat_natCast]
  congr 1
theorem tru_i {i : Int} {S : Sto} : truD (.int i) S = some (i != 0) := rfl
theorem revD_succ {m : Nat} : revD 0 (m + 1) = .int (m : Int) :: revD 0 m := by
  unfold revD
  rw [List.range_succ_eq_map, List.map_cons, List.map_map]
  congr 1
  · congr 1
    omega
  · apply List.map_congr_left
    intro a _
    show D.int (0 + ((m + 1 : Nat) : Int) - 1 - ((a + 1 : Nat) : Int)) = D.int (0 + (m : Int) - 1 - (a : Int))
    congr 1
    omega
theorem wp_loop {a : Int} {n k : Nat} (ha : szI n a) (h0 : 0 < n) (hn : n * k + 1 ≤ 400000) : ∀ (m : Nat) (x : Option D) (S : Sto), ∃ y,
    forI (tN 3) L0_whole_power (revD 0 m) [some (.int a), some (.int (k : Int)), some (.int (a ^ (k / 2 ^ m))), x] S = some (.nx [some (.int a), some (.int (k : Int)), some (.int (a ^ k)), y] S)
  | 0, x, S => ⟨x, by rw [Nat.pow_zero, Nat.div_one]; rfl⟩
  | m + 1, x, S => by
    obtain ⟨y, e⟩ := wp_loop ha h0 hn m (some (.int (m : Int))) S
    refine ⟨y, ?_⟩
    rw [revD_succ]
    refine (forI_nx rfl ?_).trans e
    have hq : k / 2 ^ (m + 1) = k / 2 ^ m / 2 := by rw [Nat.pow_succ, Nat.div_div_eq_div_mul]
    have hle : k / 2 ^ m ≤ k := Nat.div_le_self _ _
    rw [hq]
    have sq : ∀ S' : Sto, gAnd (.int ((k / 2 ^ m : Nat) : Int)) (.int 1) S' = _ := fun S' => and1_ii
    have sh : ∀ S' : Sto, gShr (.int (k : Int)) (.int (m : Int)) S' = _ := fun S' => shr_ii
    generalize k / 2 ^ m = q at *
    have s1 := ha.pow (q / 2)
    have b1 : n * (q / 2) ≤ n * k := Nat.mul_le_mul_left n (by omega)
    have b2 : n * q ≤ n * k := Nat.mul_le_mul_left n (by omega)
    have m1 : mulOk (a ^ (q / 2)) (a ^ (q / 2)) = true := mulOk_sz s1 s1
    have c : ∀ z : D, mTru (mOp gAnd (mOp gShr (mVar 1) (mVar 3)) (mRet (.int 1))) [some (.int a), some (.int (k : Int)), some z, some (.int (m : Int))] S = some (.val (((q % 2 : Nat) : Int) != 0) S) := fun z =>
      v_tru (v_op (v_op (v_var rfl) (v_var rfl) (sh S)) v_ret (sq S)) tru_i
    unfold L0_whole_power
    refine seq_nx (set_eq (v_op (v_var rfl) (v_var rfl) (mul_ii m1))) ?_
    rw [← Int.pow_add]
    have s2 := ha.pow (q / 2 + q / 2)
    have b3 : n * (q / 2 + q / 2) ≤ n * k := Nat.mul_le_mul_left n (by omega)
    have b4 : n ≤ n * k ∨ q = 0 := by
      by_cases z : q = 0
      · exact .inr z
      · exact .inl (Nat.le_mul_of_pos_right n (by omega))
    by_cases o : q % 2 = 0
    · have := c (.int (a ^ (q / 2 + q / 2)))
      rw [o] at this
      rw [show q / 2 + q / 2 = q by omega] at *
      exact skip this
    · have := c (.int (a ^ (q / 2 + q / 2)))
      rw [show q % 2 = 1 by omega] at this
      refine if_t this ?_
      have m2 : mulOk (a ^ (q / 2 + q / 2)) a = true := mulOk_sz s2 ha
      refine (set_eq (v_op (v_var rfl) (v_var rfl) (mul_ii m2))).trans ?_
      rw [← Int.pow_succ, show (q / 2 + q / 2).succ = q by omega]
      rfl
theorem bits_i {i : Int} {S : Sto} : gBits (.int i) S = some (.int ((Builtin.Int.intBits i : Nat) : Int), S) := rfl
theorem bits_out (k : Nat) : k / 2 ^ Builtin.Int.intBits (k : Int) = 0 := by
  unfold Builtin.Int.intBits
  by_cases z : k = 0
  · subst z; rfl
  · have : ((k : Int) == 0) = false := by
      rw [beq_eq_false_iff_ne]
      omega
    rw [this]
    simp only [Bool.false_eq_true, if_false, Int.natAbs_natCast]
    exact Nat.div_eq_of_lt Nat.lt_log2_self
theorem bits_le (k : Nat) : Builtin.Int.intBits (k : Int) ≤ k + 1 := by
  unfold Builtin.Int.intBits
  split
  · omega
  · have : ((k : Int).natAbs).log2 ≤ k := by
      rw [Int.natAbs_natCast]
      exact Nat.log2_le_self k
    omega
theorem mRev1_eq {me : M D} {ρ : Rf.Env} {S S1 : Sto} {n : Nat} (h : me ρ S = some (.val (.int (n : Int)) S1)) (hn : rngOk (n : Int) = true) : mRev1 me ρ S = some (.val (sqIt (revD 0 n)) S1) := by
  unfold mRev1 mB
  rw [h]
  dsimp only
  rw [if_pos hn, Int.toNat_natCast]
theorem lt60 {m k : Nat} (h : m ≤ k + 1) (h2 : k ≤ 400000) : rngOk (m : Int) = true := rngOk_nat (by omega)
theorem ltfu {m k : Nat} (h : m ≤ k + 1) (h2 : k ≤ 400000) : m < fuel := lt_fuel (k := 60) (by omega) (by omega)
theorem rev_bits {a : Int} {k : Nat} {S : Sto} (h : k ≤ 400000) : mRev1 (mUn gBits (mVar 1)) [some (.int a), some (.int (k : Int)), some (.int 1), none] S = some (.val (sqIt (revD 0 (Builtin.Int.intBits (k : Int)))) S) :=
  mRev1_eq (v_un (v_var rfl) bits_i) (lt60 (bits_le k) h)
theorem revD_len {lo : Int} {n : Nat} : (revD lo n).length = n := by
  unfold revD
  rw [List.length_map, List.length_range]
theorem e_whole_power {a : Int} {n k : Nat} (ha : szI n a) (S : Sto) (h0 : 0 < n) (hn : n * k + 1 ≤ 400000) : F_whole_power [.int a, .int (k : Int)] S = some (.val (.int (a ^ k)) S) := by
  obtain ⟨y, e⟩ := wp_loop ha h0 hn (Builtin.Int.intBits (k : Int)) none S
  rw [bits_out, Int.pow_zero] at e
  have kk : k ≤ n * k := Nat.le_mul_of_pos_left k h0
  have bk : k ≤ 400000 := by omega
  have er := rev_bits (a := a) (S := S) bk
  have bl := ltfu (bits_le k) bk
  generalize Builtin.Int.intBits (k : Int) = m at *
  unfold F_whole_power m_whole_power
  refine fn_ret ?_
  refine seq_nx (set_eq v_ret) ?_
  exact seq_nx ((for_items er (by rw [revD_len]; exact bl)).trans e) (ret_eq (v_var rfl))
theorem nq_pow (x : Rat) (k : Nat) : D.tup [.int (x.num ^ k), .int ((x.den : Int) ^ k)] = nq (x ^ k) := by
  unfold nq
  rw [Rat.num_pow, Rat.den_pow, Int.natCast_pow]
theorem _root_.Rf.sz.pow {n : Nat} {x : Rat} (h : sz n x) (k : Nat) : sz (n * k + 1) (x ^ k) := by
  refine ⟨?_, ?_⟩
  · rw [Rat.num_pow]; exact h.1.pow k
  · rw [Rat.den_pow, Int.natCast_pow]; exact h.2.pow k
theorem e_power {x : Rat} {n k : Nat} (hx : sz n x) (S : Sto) (h0 : 0 < n := by omega) (hn : n * k + 1 ≤ 400000 := by omega) : F_power [nq x, .int (k : Int)] S = some (.val (nq (x ^ k)) S) := by
  unfold F_power m_power
  refine fn_ret (ret_eq ?_)
  rw [← nq_pow]
  exact v_pair (v_call (v_cons (v_op (v_var rfl) v_ret (ix_n x S)) (v_cons (v_var rfl) v_nil)) (e_whole_power hx.1 S h0 hn)) (v_call (v_cons (v_op (v_var rfl) v_ret (ix_d x S)) (v_cons (v_var rfl) v_nil)) (e_whole_power hx.2 S h0 hn))
theorem lp_loop {x : Rat} {n k : Nat} {c : D} (hx : sz n x) (h0 : 0 < n) (hk : n * k + 1 ≤ 4000) : ∀ (m lo : Nat) (y : Option D) (S : Sto), lo + m = k → ∃ z,
    forI (tN 3) L0__law_power (rngD (lo : Int) m) [some (nq x), some c, some (nq (x ^ lo)), y] S = some (.nx [some (nq x), some c, some (nq (x ^ k)), z] S)
  | 0, lo, y, S, h => ⟨y, by rw [show lo = k by omega]; rfl⟩
  | m + 1, lo, y, S, h => by
    obtain ⟨z, e⟩ := lp_loop (c := c) hx h0 hk m (lo + 1) (some (.int (lo : Int))) S (by omega)
    refine ⟨z, ?_⟩
    rw [rngD_succ]
    refine (forI_nx rfl ?_).trans e
    unfold L0__law_power
    have b1 : n * lo ≤ n * k := Nat.mul_le_mul_left n (by omega)
    have b2 : n ≤ n * k := Nat.le_mul_of_pos_right n (by omega)
    have s1 := (hx.pow lo).mono (m := n * k + 1) (by omega)
    have s2 := hx.mono (m := n * k + 1) (by omega)
    refine (set_eq (v_call (v_cons (v_var rfl) (v_cons (v_var rfl) v_nil)) (e_law_mul s1 s2 S))).trans ?_
    rw [← Rat.pow_succ]
    rfl
theorem one_nq : D.tup [.int 1, .int 1] = nq 1 := rfl
theorem zero_nq : D.tup [.int 0, .int 1] = nq 0 := rfl
theorem e_law_power {x : Rat} {n k : Nat} (hx : sz n x) (S : Sto) (h0 : 0 < n := by omega) (hk : n * k + 1 ≤ 4000 := by omega) : F__law_power [nq x, .int (k : Int)] S = some (.val (nq (x ^ k)) S) := by
  obtain ⟨z, e⟩ := lp_loop (c := .int (k : Int)) hx h0 hk k 0 none S (by omega)
  have kk : k ≤ n * k := Nat.le_mul_of_pos_left k h0
  unfold F__law_power m__law_power
  refine fn_ret ?_
  refine seq_nx (set_eq (v_pair v_ret v_ret)) ?_
  rw [one_nq, show (1 : Rat) = x ^ 0 from (Rat.pow_zero x).symm]
  refine seq_nx ((for_items (xs := rngD 0 k) (S1 := S) (mRng1_eq (n := (k : Int)) (v_cons (v_var rfl) v_nil) (rngOk_nat (by omega))) ?_).trans e) (ret_eq (v_var rfl))
  rw [rngD_len]
  exact lt_fuel (k := 20) (by omega) (by omega)
/-! ### order -/
theorem pow_mono {a b : Rat} (h : 0 ≤ a) (h2 : a ≤ b) : ∀ k : Nat, a ^ k ≤ b ^ k
  | 0 => by rw [Rat.pow_zero, Rat.pow_zero]; grind
  | k + 1 => by
    have i := pow_mono h h2 k
    have p : 0 ≤ b ^ k := Rat.pow_nonneg (by grind)
    rw [Rat.pow_succ, Rat.pow_succ]
    have e1 := Rat.mul_le_mul_of_nonneg_right i h
    have e2 := Rat.mul_le_mul_of_nonneg_left h2 p
    exact Rat.le_trans e1 e2
theorem pow_sq (a : Rat) : ∀ j : Nat, a ^ (2 * j) = (a * a) ^ j
  | 0 => (Rat.pow_zero a).trans (Rat.pow_zero _).symm
  | j + 1 => by
    rw [show 2 * (j + 1) = 2 * j + 1 + 1 by omega, Rat.pow_succ, Rat.pow_succ, pow_sq a j, Rat.pow_succ, Rat.mul_assoc]
theorem sq_mono {a b : Rat} (h : a ≤ b) (hb : b ≤ 0) : b * b ≤ a * a := by
  have e1 := Rat.mul_le_mul_of_nonneg_left (a := -b) (b := -a) (c := -b) (by grind) (by grind)
  have e2 := Rat.mul_le_mul_of_nonneg_right (a := -b) (b := -a) (c := -a) (by grind) (by grind)
  grind
theorem sq_pos (a : Rat) : 0 ≤ a * a := by
  by_cases h : 0 ≤ a
  · exact Rat.mul_nonneg h h
  · have := Rat.mul_nonneg (a := -a) (b := -a) (by grind) (by grind)
    grind
theorem pow_even {a b : Rat} {k : Nat} (h : a ≤ b) (hb : b ≤ 0) (hk : k % 2 = 0) : b ^ k ≤ a ^ k := by
  rw [show k = 2 * (k / 2) by omega, pow_sq, pow_sq]
  exact pow_mono (sq_pos b) (sq_mono h hb) _
theorem pow_odd {a b : Rat} {k : Nat} (h : a ≤ b) (hk : k % 2 = 1) : a ^ k ≤ b ^ k := by
  by_cases ha : 0 ≤ a
  · exact pow_mono ha h k
  · rw [show k = 2 * (k / 2) + 1 by omega, Rat.pow_succ, Rat.pow_succ, pow_sq, pow_sq]
    generalize k / 2 = j
    have pa : 0 ≤ (a * a) ^ j := Rat.pow_nonneg (sq_pos a)
    have pb : 0 ≤ (b * b) ^ j := Rat.pow_nonneg (sq_pos b)
    by_cases hb : 0 ≤ b
    · have e1 := Rat.mul_nonneg pb hb
      have e2 := Rat.mul_nonneg pa (b := -a) (by grind)
      grind
    · have e0 := pow_mono (sq_pos b) (sq_mono h (by grind)) j
      have e1 := Rat.mul_le_mul_of_nonneg_left h pa
      have e2 := Rat.mul_le_mul_of_nonneg_right (c := -b) e0 (by grind)
      grind
/-- the power of an interval -/
def pw (a b : Rat) (k : Nat) : Rat × Rat :=
  if 0 < k ∧ k % 2 = 0 ∧ a < 0 ∧ 0 < b then (0, if a ^ k < b ^ k then b ^ k else a ^ k) else (if b ^ k < a ^ k then b ^ k else a ^ k, if a ^ k < b ^ k then b ^ k else a ^ k)
theorem num_pos {q : Rat} : 0 < q.num ↔ 0 < q := by
  rw [Rat.lt_iff]
  simp
theorem num_neg {q : Rat} : q.num < 0 ↔ q < 0 := by
  rw [Rat.lt_iff]
  simp
end Gn

namespace Gn
open PySem PySem.Spec PyProof.Rows L2 Rf
local macro_rules
  | `(tactic| infer_instance) => `(tactic| with_reducible first
    | apply ws_seq
    | apply ws_ret
    | apply ws_if
    | apply ws_ex
    | apply ws_asg
    | apply ws_par
    | apply ws_dput
    | apply ws_lput
    | apply ws_nil
    | apply ws_retN
    | apply s0
    | apply s1
    | apply s2
    | apply s3
    | apply s4
    | apply s5
    | apply s6
    | apply s7
    | apply s8
    | apply s9
    | apply s10
    | apply s11
    | apply s12
    | apply s13
    | apply s14
    | apply s15
    | apply s16
    | apply s17
    | apply s18
    | apply s19
    | apply s20
    | apply s21
    | apply s22
    | apply s23
    | apply s24
    | apply s25
    | apply wv_op
    | apply wv_un
    | apply wv_bi
    | apply wv_call
    | apply wv_call0
    | apply wv_tup
    | apply wv_lst
    | apply wv_cons
    | apply wv_nil
    | apply wv_T
    | apply wv_tru
    | apply wv_not
    | apply wv_and
    | apply wv_or
    | apply wv_if
    | apply wv_andV
    | apply wv_orV
    | apply wv_yes
    | apply wv_ret
    | apply wv_app
    | apply wv_dget
    | apply wv_dget2
    | apply wv_din
    | apply wv_dct1
    | apply wv_dct0
    | apply wv_sx2
    | apply wv_sxH
    | apply wv_sxL
    | apply exI
    | apply v0
    | apply v1
    | apply v2
    | apply v3
    | apply v4
    | apply v5
    | apply v6
    | apply v7
    | apply v8
    | apply v9
    | apply v10
    | apply v11
    | apply v12
    | apply v13
    | apply v14
    | apply v15
    | apply v16
    | apply v17
    | apply v18
    | apply v19
    | apply v20
    | apply v21
    | apply v22
    | apply v23
    | apply v24
    | apply v25
    | apply g_add
    | apply g_sub
    | apply g_iadd
    | apply g_isub
    | apply g_lt
    | apply g_le
    | apply g_gt
    | apply g_ge
    | apply g_eq
    | apply g_ne
    | apply g_neg
    | apply g_not
    | apply g_gcd
    | apply g_abs
    | apply g_int
    | apply g_intb
    | apply g_nq0
    | apply g_nq1
    | apply g_ix0
    | apply g_ix1
    | apply g_ix2
    | apply g_lenT
    | apply exT
    | apply exTru
    | apply ifT
    | apply ifF
    | apply ifT'
    | apply ifF'
    | apply nf1
    | apply nf2
    | apply nf3
    | apply nf4
    | apply len0
    | apply len1
    | apply len2
    | apply len3
    | apply len4
    )
/-! ### the program's sums -/
theorem wfn {n : Nat} {m : MS} {ds : List D} {S : Sto} {Q : D → Sto → Prop} (ρ : Rf.Env) (e : ds.map some ++ List.replicate (n - ds.length) none = ρ) (h : WS (m ρ S) (fun _ S1 => Q .non S1) Q (fun _ _ => False) (fun _ _ => False)) : WV (fnOf n m ds S) Q := wf_fn (e ▸ h)
theorem unp_nd {x : NP} {i j : Nat} {ρ : Rf.Env} {S : Sto} : tTp 2 (tCons' (tN i) (tCons' (tN j) tNil')) (ndD x) ρ S = some ((ρ.set i (some (.int x.1.1))).set j (some (.int x.1.2))) := by
  unfold ndD
  split <;> rfl
theorem w_loose {x y : NP} {L M M' : Nat} (hx : BP L M x.1) (hy : BP L M' y.1) {S : Sto} {Q : D → Sto → Prop} (hL : 0 < L) (h1 : L < BIG) (h2 : (M + M') * L < BIG) (k : Q (ndD (lsum x.1 y.1, false)) S) : WV (F_loose_plus [ndD x, ndD y] S) Q := by
  have bx := hx.le hL
  have by_ := hy.le hL
  have px := hx.pos
  have py := hy.pos
  have hM : M * L < BIG := Nat.lt_of_le_of_lt (Nat.mul_le_mul_right _ (Nat.le_add_right _ _)) h2
  have hM' : M' * L < BIG := Nat.lt_of_le_of_lt (Nat.mul_le_mul_right _ (Nat.le_add_left _ _)) h2
  have nx := hx.num hL
  have ny := hy.num hL
  have hl := (lsum_bp hx hy)
  unfold F_loose_plus m_loose_plus
  refine wfn [some (ndD x), some (ndD y), none, none, none, none, none] rfl ?_
  repeat infer_instance
  refine ⟨_, unp_nd, ?_⟩
  simp only [set0, setS]
  repeat infer_instance
  refine ⟨_, unp_nd, ?_⟩
  simp only [set0, setS]
  repeat infer_instance
  refine ⟨fun c => ?_, fun c => ?_⟩
  · have c := of_decide_eq_true c
    repeat infer_instance
    have e : lsum x.1 y.1 = (x.1.1 + y.1.1, x.1.2) := by unfold lsum; rw [if_pos c]
    rw [e] at k
    exact k
  · have c := of_decide_eq_false c
    repeat infer_instance
    refine g_lcm (lcmOk_b (by omega)) (lcmOk_b (by omega)) ?_
    obtain ⟨p, dl, ⟨u, e1, e2, u0⟩, v, e3, e4, v0⟩ := lcm_facts hx hy
    have bl : (lcmI x.1.2 y.1.2).natAbs ≤ L := by
      have h1 : (lcmI x.1.2 y.1.2).natAbs ∣ L := by
        have := Int.natAbs_dvd_natAbs.mpr dl
        simpa using this
      exact Nat.le_of_dvd hL h1
    have bu : ((lcmI x.1.2 y.1.2).fdiv x.1.2).natAbs < BIG := by
      have h1 := congrArg Int.natAbs e1
      rw [Int.natAbs_mul] at h1
      have h2 : u.natAbs ≤ x.1.2.natAbs * u.natAbs := Nat.le_mul_of_pos_left _ (by omega)
      rw [e2]
      omega
    have bv : ((lcmI x.1.2 y.1.2).fdiv y.1.2).natAbs < BIG := by
      have h1 := congrArg Int.natAbs e3
      rw [Int.natAbs_mul] at h1
      have h2 : v.natAbs ≤ y.1.2.natAbs * v.natAbs := Nat.le_mul_of_pos_left _ (by omega)
      rw [e4]
      omega
    have e : lsum x.1 y.1 = (x.1.1 * (lcmI x.1.2 y.1.2).fdiv x.1.2 + y.1.1 * (lcmI x.1.2 y.1.2).fdiv y.1.2, lcmI x.1.2 y.1.2) := by unfold lsum; rw [if_neg c]
    rw [e] at k
    rw [show ((Nat.lcm x.1.2.natAbs y.1.2.natAbs : Nat) : Int) = lcmI x.1.2 y.1.2 from rfl]
    repeat infer_instance
    refine g_div (divOk_b (by omega) (by omega)) ?_
    refine g_mul (mulOk_b (by omega) (by omega)) ?_
    repeat infer_instance
    refine g_div (divOk_b (by omega) (by omega)) ?_
    refine g_mul (mulOk_b (by omega) (by omega)) ?_
    repeat infer_instance
    exact k
theorem w_number {x : Int × Int} {L M : Nat} (hx : BP L M x) {S : Sto} {Q : D → Sto → Prop} (hL : 0 < L) (h1 : L < BIG) (k : Q (nq (valP x)) S) : WV (F_number [.int x.1, .int x.2] S) Q := by
  have px := hx.pos
  have bx := hx.le hL
  unfold F_number m_number
  refine wfn [some (.int x.1), some (.int x.2), none] rfl ?_
  repeat infer_instance
  refine ⟨fun c => ?_, fun c => ?_⟩
  · have c := of_decide_eq_true c
    omega
  repeat infer_instance
  refine ⟨fun c => ?_, fun c => ?_⟩
  · have c := of_decide_eq_true c
    omega
  repeat infer_instance
  have hg : 0 < Nat.gcd x.1.natAbs x.2.natAbs := Nat.gcd_pos_of_pos_right _ (by omega)
  have hgl : Nat.gcd x.1.natAbs x.2.natAbs ≤ x.2.natAbs := Nat.gcd_le_right _ (by omega)
  refine g_div (divOk_b (by omega) (by omega)) ?_
  repeat infer_instance
  refine g_div (divOk_b (by omega) (by omega)) ?_
  repeat infer_instance
  have e : valP x = Rat.normalize x.1 x.2.natAbs (by omega) := by
    unfold valP
    rw [Rat.normalize_eq_mkRat, ← Rat.divInt_ofNat, Int.natAbs_of_nonneg (by omega)]
  rw [e, Rat.normalize_eq] at k
  have e1 : x.1.fdiv ((Nat.gcd x.1.natAbs x.2.natAbs : Nat) : Int) = x.1 / ((Nat.gcd x.1.natAbs x.2.natAbs : Nat) : Int) := fdiv_nat
  have e2 : x.2.fdiv ((Nat.gcd x.1.natAbs x.2.natAbs : Nat) : Int) = ((x.2.natAbs / Nat.gcd x.1.natAbs x.2.natAbs : Nat) : Int) := by
    rw [fdiv_nat, Int.natCast_ediv, Int.natAbs_of_nonneg (by omega : 0 ≤ x.2)]
  rw [e1, e2]
  exact k
/-! ### the program's tables -/
abbrev ST (S : Sto) (id : Nat) (T : Tab NP) : Prop := S[id]? = some (.dct (tabD ndD T))
theorem w_add_term {T : Tab NP} {e : List Int} {x : NP} {L M M' : Nat} (hT : BN L M T) (hx : BP L M' x.1) {S : Sto} {id : Nat} (hs : ST S id T) {Q : D → Sto → Prop} (hL : 0 < L) (h1 : L < 2 ^ 62) (h2 : (M + M') * L < 2 ^ 62) (hl : T.length < 1000000)
    (k : ∀ S', KeepB id S S' → ST S' id (addN T e x) → Q .non S') : WV (F__add_term [.ref id, tupI e, ndD x] S) Q := by
  have g := dctGet_tab (e := e) hs
  have hlt : id < S.length := lt_of_get hs
  have fin : ∀ y : NP, addX x (lookA T e) = y → Q .non (S.set id (.dct (putD (tabD ndD T) (keyL e) (ndD y)))) := fun y hy => by
    rw [putD_tab]
    refine k _ keepB_set ?_
    show (S.set id _)[id]? = _
    rw [List.getElem?_set_self hlt]
    unfold addN
    rw [hy]
  unfold F__add_term m__add_term
  refine wfn [some (.ref id), some (tupI e), some (ndD x)] rfl ?_
  repeat infer_instance
  refine ⟨_, g, ?_⟩
  cases hk : lookA T e with
  | none =>
    rw [hk] at fin
    refine ⟨fun z => (nomatch (show false = true from z)), fun _ => ?_⟩
    repeat infer_instance
    exact ⟨id, _, _, rfl, hs, keyD_tupI e, by unfold tabD; rw [List.length_map]; exact hl, fin x rfl⟩
  | some y =>
    rw [hk] at fin g
    refine ⟨fun _ => ?_, fun z => nomatch (show true = false from z)⟩
    repeat infer_instance
    refine ⟨_, g, ?_⟩
    repeat infer_instance
    refine w_loose (hT _ (lookA_mem hk)) hx hL (lt_big h1) (lt_big h2) ?_
    repeat infer_instance
    exact ⟨id, _, _, rfl, hs, keyD_tupI e, by unfold tabD; rw [List.length_map]; exact hl, fin _ rfl⟩
theorem w_from_tableB {T : Tab NP} {n L M : Nat} (hn : (keysA T).Nodup) (hk : KOk n (keysA T)) (hT : BN L M T) {S : Sto} {id : Nat} (hs : ST S id T) {Q : D → Sto → Prop} (h0 : 1 ≤ n) (hL : 0 < L) (h1 : L < BIG) (hl : T.length < 100000)
    (k : ∀ S', Keep S S' → Q (polD (tidy (ratT T))) S') : WV (F__from_table [.ref id] S) Q := by
  have hlt : id < S.length := lt_of_get hs
  have hkl : (keysA T).length < 100000 := by unfold keysA; rw [List.length_map]; exact hl
  have hsl : (sortL (keysA T)).length < 100000 := by rw [(perm_sort _).length_eq]; exact hkl
  unfold F__from_table m__from_table
  refine wfn [some (.ref id), none, none, none, none] rfl ?_
  repeat infer_instance
  have hs1 : (S ++ [O.lst []])[id]? = some (.dct (tabD ndD T)) := Keep.app _ _ _ _ hs
  let f : List Int → Option (List Int × Rat) := fun e => if co (ratT T) e = 0 then none else some (e, co (ratT T) e)
  refine ws_for ((sortL (keysA T)).map tupI) (fun j ρ S1 => ∃ a b c : Option D, ρ = [some (.ref id), some (.ref S.length), a, b, c] ∧ Keep S S1 ∧ S1[S.length]? = some (.lst ((((sortL (keysA T)).take j).filterMap f).map termD)) ∧ S1[S.length + 1]? = some (.lst ((sortL (keysA T)).map tupI))) (by rw [List.length_map]; omega) ?_ (fun j x ρ S1 hx hI => ?_) (fun ρ S1 hI => ?_)
  · refine wv_seq (wv_bi ?_)
    repeat infer_instance
    refine g_sortD hs1 intsK_tab (sortOk_of hk h0 hkl) ⟨sqRef (S.length + 1), ?_, ⟨_, _, _, rfl, ?_, ?_, ?_⟩, fun j ρ S1 hI => ?_⟩
    · unfold sqOf
      dsimp only
      rw [List.length_append, List.length_singleton, show (S ++ [O.lst []] ++ [O.lst ((sortL (keysA T)).map tupI)])[S.length + 1]? = some (.lst ((sortL (keysA T)).map tupI)) from by
        have := get_new (S := S ++ [O.lst []]) (o := .lst ((sortL (keysA T)).map tupI))
        rwa [List.length_append, List.length_singleton] at this]
    · exact (Keep.app _ _).trans (Keep.app _ _)
    · exact Keep.app _ _ _ _ get_new
    · have := get_new (S := S ++ [O.lst []]) (o := .lst ((sortL (keysA T)).map tupI))
      rwa [List.length_append, List.length_singleton] at this
    · obtain ⟨a, b, c, rfl, _, _, h⟩ := hI
      exact sqIs_ref h
  · obtain ⟨a, b, c, rfl, kp, hacc, hsrt⟩ := hI
    rw [List.getElem?_map] at hx
    cases he : (sortL (keysA T))[j]? with
    | none => rw [he] at hx; cases hx
    | some e =>
      rw [he] at hx
      cases hx
      have hmem : e ∈ keysA T := (perm_sort _).mem_iff.mp (List.mem_of_getElem? he)
      cases hk2 : lookA T e with
      | none => exact absurd hmem (lookA_none.mp hk2)
      | some y =>
        have g := dctGet_tab (e := e) (kp _ _ hs)
        rw [hk2] at g
        have hy := hT _ (lookA_mem hk2)
        have hco : co (ratT T) e = valP y.1 := by rw [co_rat, hk2]; rfl
        have ft := filterMap_take f _ j e he
        refine ⟨_, rfl, ?_⟩
        unfold L0__from_table
        simp only [tN, set0, setS]
        repeat infer_instance
        refine ⟨_, g, ?_⟩
        repeat infer_instance
        refine ⟨_, unp_nd, ?_⟩
        simp only [set0, setS]
        repeat infer_instance
        refine ⟨fun hc => ?_, fun hc => ?_⟩
        · have hne : ¬ y.1.1 = 0 := by simpa using hc
          have hv : f e = some (e, valP y.1) := by
            show (if co (ratT T) e = 0 then none else some (e, co (ratT T) e)) = _
            rw [hco, if_neg (fun z => hne ((val_zero_iff hy.pos).mp z))]
          repeat infer_instance
          refine ⟨_, _, rfl, hacc, ?_⟩
          repeat infer_instance
          refine w_number hy hL h1 ?_
          repeat infer_instance
          refine ⟨_, hacc, ?_, ?_⟩
          · rw [List.length_map]
            exact Nat.lt_of_le_of_lt (List.length_filterMap_le _ _) (Nat.lt_of_le_of_lt (List.length_take_le' _ _) (by omega))
          refine ⟨_, _, _, rfl, kp.put (Nat.le_refl _) _, ?_, ?_⟩
          · rw [List.getElem?_set_self (lt_of_get hacc), ft, hv, List.map_append]
            rfl
          · rw [List.getElem?_set_ne (by omega)]
            exact hsrt
        · have hz : y.1.1 = 0 := by simpa using hc
          have hv : f e = none := by
            show (if co (ratT T) e = 0 then none else some (e, co (ratT T) e)) = _
            rw [hco, if_pos ((val_zero_iff hy.pos).mpr hz)]
          repeat infer_instance
          refine ⟨_, _, _, rfl, kp, ?_, hsrt⟩
          rw [ft, hv]
          show S1[S.length]? = some (.lst ((_ ++ []).map termD))
          rw [List.append_nil]
          exact hacc
  · obtain ⟨a, b, c, rfl, kp, hacc, hsrt⟩ := hI
    repeat infer_instance
    refine g_tupR hacc ?_
    rw [List.length_map, List.take_length]
    have q := k _ kp
    unfold polD tidy at q
    rw [keys_rat] at q
    exact q
theorem w_from_table {T : Tab NP} {n L M : Nat} (hn : (keysA T).Nodup) (hk : KOk n (keysA T)) (hT : BN L M T) {S : Sto} {id : Nat} (hs : ST S id T) {Q : D → Sto → Prop} (h0 : 1 ≤ n) (hL : 0 < L) (h1 : L < 2 ^ 62) (hl : T.length < 64)
    (k : ∀ S', Keep S S' → Q (polD (tidy (ratT T))) S') : WV (F__from_table [.ref id] S) Q := w_from_tableB hn hk hT hs h0 hL (lt_big h1) (by omega) k
/-! ### the program's polynomials -/
theorem unp_term {t : List Int × NP} {i j : Nat} {ρ : Rf.Env} {S : Sto} : tTp 2 (tCons' (tN i) (tCons' (tN j) tNil')) (termN t) ρ S = some ((ρ.set i (some (tupI t.1))).set j (some (ndD t.2))) := rfl
/-- a sequence that stands from S on -/
def AnySeq (S : Sto) (d : D) (xs : List D) : Prop := ∀ S', Keep S S' → ∃ sq, sqOf S' d = some sq ∧ ∀ S'', Keep S S'' → SqIs sq xs S''
theorem anySeq_ref {S : Sto} {i : Nat} {xs : List D} (h : S[i]? = some (.lst xs)) : AnySeq S (.ref i) xs := fun S' k => ⟨sqRef i, by unfold sqOf; dsimp only; rw [k _ _ h], fun S'' k2 => sqIs_ref (k2 _ _ h)⟩
theorem w_collectedG {I : Tab NP} {d : D} {S : Sto} (hd : AnySeq S d (I.map termN)) {n L M : Nat} (hk : KOk n (keysA I)) (hI : BN L M I) {Q : D → Sto → Prop} (h0 : 1 ≤ n) (hL : 0 < L) (h1 : L < 2 ^ 62) (hl : I.length ≤ 1000) (h2 : (M * I.length + M) * L < 2 ^ 62) (hf : Few 64 (keysA I))
    (k : ∀ r S', PB n L (M * I.length) r → r.length ≤ I.length → (∀ e, co r e = sumAt (ratT I) e) → (∀ e ∈ keysA r, e ∈ keysA I) → Keep S S' → Q (polD r) S') : WV (F__collected [d] S) Q := by
  unfold F__collected m__collected
  refine wfn [some d, none, none, none] rfl ?_
  repeat infer_instance
  refine ws_for (I.map termN) (fun j ρ S1 => ∃ (a b : Option D) (T : Tab NP), ρ = [some d, some (.ref S.length), a, b] ∧ Keep S S1 ∧ ST S1 S.length T ∧ TN n L M j T (ratT (I.take j))) (by rw [List.length_map]; omega) ?_ (fun j x ρ S1 hx hI' => ?_) (fun ρ S1 hI' => ?_)
  · refine wv_seq ?_
    repeat infer_instance
    obtain ⟨sq, h3, h4⟩ := hd _ (Keep.app _ _)
    refine ⟨sq, h3, ⟨_, _, [], rfl, Keep.app _ _, get_new, TN.nil⟩, fun j ρ S1 hI' => ?_⟩
    obtain ⟨_, _, _, _, kp, _⟩ := hI'
    exact h4 _ kp
  · obtain ⟨a, b, T, rfl, kp, hs, tn⟩ := hI'
    rw [List.getElem?_map] at hx
    cases he : I[j]? with
    | none => rw [he] at hx; cases hx
    | some t =>
      rw [he] at hx
      cases hx
      have hj : j < I.length := by
        by_cases c : j < I.length
        · exact c
        · rw [List.getElem?_eq_none (by omega)] at he; cases he
      have ht := List.mem_of_getElem? he
      refine ⟨_, unp_term, ?_⟩
      unfold L0__collected
      simp only [set0, setS]
      repeat infer_instance
      have hMj : (M * j + M) * L < 2 ^ 62 := Nat.lt_of_le_of_lt (Nat.mul_le_mul_right _ (Nat.add_le_add_right (Nat.mul_le_mul_left _ (Nat.le_of_lt hj)) _)) h2
      refine w_add_term tn.bd (hI t ht) hs hL h1 hMj (by have := tn.len; omega) fun S2 k2 hs2 => ?_
      refine ⟨_, _, _, rfl, kp.thenB (Nat.le_refl _) k2, hs2, ?_⟩
      rw [take_snoc he, ratT_snoc]
      exact tn.add (hk t.1 (List.mem_map.mpr ⟨t, ht, rfl⟩)) (hI t ht)
  · obtain ⟨a, b, T, rfl, kp, hs, tn⟩ := hI'
    rw [List.length_map, List.take_length] at tn
    have fw : T.length < 64 := tn.few (J := ratT I) (by rw [keys_rat]; exact hf) fun e he => he
    repeat infer_instance
    refine w_from_table tn.nodup tn.ok tn.bd hs h0 hL h1 fw fun S2 k2 => ?_
    obtain ⟨p1, p2, p3⟩ := tn.pb
    refine k _ _ p1 p2 p3 (fun e he => ?_) (kp.trans k2)
    have := tn.sub e (by have := tidy_keys e he; rwa [keys_rat] at this)
    rwa [keys_rat] at this
theorem w_collected {I : Tab NP} {n L M : Nat} (hk : KOk n (keysA I)) (hI : BN L M I) {S : Sto} {Q : D → Sto → Prop} (h0 : 1 ≤ n) (hL : 0 < L) (h1 : L < 2 ^ 62) (hl : I.length ≤ 1000) (h2 : (M * I.length + M) * L < 2 ^ 62) (hf : Few 64 (keysA I))
    (k : ∀ r S', PB n L (M * I.length) r → r.length ≤ I.length → (∀ e, co r e = sumAt (ratT I) e) → (∀ e ∈ keysA r, e ∈ keysA I) → Keep S S' → Q (polD r) S') : WV (F__collected [.tup (I.map termN)] S) Q :=
  w_collectedG (fun _ _ => ⟨sqIt (I.map termN), rfl, fun _ _ => sqIs_it⟩) hk hI h0 hL h1 hl h2 hf k
/-- what the program makes of a list of terms -/
theorem w_times {x y : Rat} {L M L' M' : Nat} (hx : BQ L M x) (hy : BQ L' M' y) {S : Sto} {Q : D → Sto → Prop} (hL : 0 < L) (hL' : 0 < L') (h1 : L < 2 ^ 62) (h2 : L' < 2 ^ 62) (h3 : M * L < 2 ^ 62) (h4 : M' * L' < 2 ^ 62) (k : Q (nq (x * y)) S) : WV (F_times [nq x, nq y] S) Q :=
  wv_of (e_times (n := 62) (bq_sz hx hL h1 h3) (bq_sz hy hL' h2 h4) S) k
theorem scaled_co {p : Pol} (hn : (keysA p).Nodup) {x : Rat} (e : List Int) : co (p.map fun t => (t.1, t.2 * x)) e = co p e * x := by
  unfold co
  have := lookA_map (T := p) (f := fun y : Rat => y * x) (e := e)
  rw [this]
  cases lookA p e with
  | none => show (0 : Rat) = 0 * x; rw [Rat.zero_mul]
  | some y => rfl
theorem scaled_keys {p : Pol} {x : Rat} : keysA (p.map fun t => (t.1, t.2 * x)) = keysA p := by
  unfold keysA
  rw [List.map_map]; rfl
theorem scaled_wf {n : Nat} {p : Pol} (h : WF n p) {x : Rat} (hx : x ≠ 0) : WF n (p.map fun t => (t.1, t.2 * x)) where
  srt := by rw [scaled_keys]; exact h.srt
  ok := by rw [scaled_keys]; exact h.ok
  nz := fun t ht => by
    obtain ⟨u, hu, rfl⟩ := List.mem_map.mp ht
    exact fun z => (Rat.mul_eq_zero.mp z).elim (h.nz u hu) hx
theorem keys_app {α : Type} (T U : Tab α) : keysA (T ++ U) = keysA T ++ keysA U := by unfold keysA; rw [List.map_append]
theorem ratT_app (T U : Tab NP) : ratT (T ++ U) = ratT T ++ ratT U := by unfold ratT; rw [List.map_append]
theorem w_added {p q : Pol} {n L M : Nat} (hp : PB n L M p) (hq : PB n L M q) {S : Sto} {Q : D → Sto → Prop} (h0 : 1 ≤ n) (hL : 0 < L) (h1 : L < 2 ^ 62) (hl : p.length + q.length < 64) (h2 : M * 64 * L < 2 ^ 62)
    (k : ∀ r S', PB n L (M * (p.length + q.length)) r → r.length ≤ p.length + q.length → (∀ e, co r e = sumAt (p ++ q) e) → (∀ e ∈ keysA r, e ∈ keysA (p ++ q)) → Keep S S' → Q (polD r) S') : WV (F__collected [.tup (p.map termD ++ q.map termD)] S) Q := by
  have e : (p.map termD ++ q.map termD) = (ofP p ++ ofP q).map termN := by
    rw [List.map_append]
    have a := pol_of p
    have b := pol_of q
    unfold polD at a b
    rw [D.tup.inj a, D.tup.inj b]
  have len : (ofP p ++ ofP q).length = p.length + q.length := by
    unfold ofP
    rw [List.length_append, List.length_map, List.length_map]
  have hk : keysA (ofP p ++ ofP q) = keysA (p ++ q) := by rw [keys_app, keys_app, keys_of, keys_of]
  rw [e]
  refine w_collected (n := n) (L := L) (M := M) (I := ofP p ++ ofP q) ?_ ?_ h0 hL h1 (by omega) ?_ (few_len (by unfold keysA; rw [List.length_map]; omega)) fun r S' a1 a2 a3 a4 a5 => ?_
  · rw [hk, keys_app]
    exact fun a ha => (List.mem_append.mp ha).elim (hp.wf.ok a) (hq.wf.ok a)
  · exact fun t ht => (List.mem_append.mp ht).elim (hp.bd.of t) (hq.bd.of t)
  · refine Nat.lt_of_le_of_lt (Nat.mul_le_mul_right _ ?_) h2
    rw [len, ← Nat.mul_succ]
    exact Nat.mul_le_mul_left _ (by omega)
  · rw [len] at a1 a2
    refine k r S' a1 a2 (fun a => ?_) (by rw [← hk]; exact a4) a5
    rw [a3, ratT_app, rat_of, rat_of]
theorem unp_term2 {t : List Int × NP} {i j k : Nat} {ρ : Rf.Env} {S : Sto} : tTp 2 (tCons' (tN i) (tCons' (tTp 2 (tCons' (tN j) (tCons' (tN k) tNil'))) tNil')) (termN t) ρ S = some (((ρ.set i (some (tupI t.1))).set j (some (.int t.2.1.1))).set k (some (.int t.2.1.2))) := by
  unfold termN ndD
  split <;> rfl
def addF : D → Option D := fun d => match d with
  | .tup [.int i, .int j] => some (.int (i + j))
  | _ => none
theorem addF_zip : ∀ a b : List Int, (List.zipWith (fun x y => D.tup [x, y]) (a.map D.int) (b.map D.int)).filterMap addF = (addE a b).map D.int
  | [], _ => by simp [addE]
  | _ :: _, [] => by simp [addE]
  | x :: a, y :: b => by
    have ih := addF_zip a b
    unfold addE at *
    rw [List.map_cons, List.map_cons, List.zipWith_cons_cons, List.zipWith_cons_cons, List.filterMap_cons, List.map_cons, ih]
    rfl
def rowR (t : List Int × Rat) (q : Pol) : Pol := q.map fun u => (addE t.1 u.1, t.2 * u.2)
theorem rowR_sub {p q : Pol} {t : List Int × Rat} (h : t ∈ p) : ∀ x ∈ rowR t q, x ∈ prodR p q := fun x hx => List.mem_flatMap.mpr ⟨t, h, hx⟩
theorem prod_sub {p p' q : Pol} (h : ∀ t ∈ p', t ∈ p) : ∀ x ∈ prodR p' q, x ∈ prodR p q := fun x hx => by
  obtain ⟨t, ht, hx⟩ := List.mem_flatMap.mp hx
  exact List.mem_flatMap.mpr ⟨t, h t ht, hx⟩
theorem keys_of_sub {T U : Pol} (h : ∀ x ∈ T, x ∈ U) : ∀ e ∈ keysA T, e ∈ keysA U := fun e he => by
  obtain ⟨t, ht, rfl⟩ := List.mem_map.mp he
  exact List.mem_map.mpr ⟨t, h t ht, rfl⟩
theorem mem_ratT {I : Tab NP} {t : List Int × NP} (h : t ∈ I) : (t.1, valP t.2.1) ∈ ratT I := List.mem_map.mpr ⟨t, h, rfl⟩
end Gn

namespace Gn
open PySem PySem.Spec PyProof.Rows L2 Rf
local macro_rules
  | `(tactic| infer_instance) => `(tactic| with_reducible first
    | apply ws_seq
    | apply ws_ret
    | apply ws_if
    | apply ws_ex
    | apply ws_asg
    | apply ws_par
    | apply ws_dput
    | apply ws_lput
    | apply ws_nil
    | apply ws_retN
    | apply s0
    | apply s1
    | apply s2
    | apply s3
    | apply s4
    | apply s5
    | apply s6
    | apply s7
    | apply s8
    | apply s9
    | apply s10
    | apply s11
    | apply s12
    | apply s13
    | apply s14
    | apply s15
    | apply s16
    | apply s17
    | apply s18
    | apply s19
    | apply s20
    | apply s21
    | apply s22
    | apply s23
    | apply s24
    | apply s25
    | apply wv_op
    | apply wv_un
    | apply wv_bi
    | apply wv_call
    | apply wv_call0
    | apply wv_tup
    | apply wv_lst
    | apply wv_cons
    | apply wv_nil
    | apply wv_T
    | apply wv_tru
    | apply wv_not
    | apply wv_and
    | apply wv_or
    | apply wv_if
    | apply wv_andV
    | apply wv_orV
    | apply wv_yes
    | apply wv_ret
    | apply wv_app
    | apply wv_dget
    | apply wv_dget2
    | apply wv_din
    | apply wv_dct1
    | apply wv_dct0
    | apply wv_sx2
    | apply wv_sxH
    | apply wv_sxL
    | apply exI
    | apply v0
    | apply v1
    | apply v2
    | apply v3
    | apply v4
    | apply v5
    | apply v6
    | apply v7
    | apply v8
    | apply v9
    | apply v10
    | apply v11
    | apply v12
    | apply v13
    | apply v14
    | apply v15
    | apply v16
    | apply v17
    | apply v18
    | apply v19
    | apply v20
    | apply v21
    | apply v22
    | apply v23
    | apply v24
    | apply v25
    | apply g_add
    | apply g_sub
    | apply g_iadd
    | apply g_isub
    | apply g_lt
    | apply g_le
    | apply g_gt
    | apply g_ge
    | apply g_eq
    | apply g_ne
    | apply g_neg
    | apply g_not
    | apply g_gcd
    | apply g_abs
    | apply g_int
    | apply g_intb
    | apply g_nq0
    | apply g_nq1
    | apply g_ix0
    | apply g_ix1
    | apply g_ix2
    | apply g_lenT
    | apply exT
    | apply exTru
    | apply ifT
    | apply ifF
    | apply ifT'
    | apply ifF'
    | apply nf1
    | apply nf2
    | apply nf3
    | apply nf4
    | apply len0
    | apply len1
    | apply len2
    | apply len3
    | apply len4
    )
/-! ### the law's polynomials -/
abbrev SR (S : Sto) (id : Nat) (T : Pol) : Prop := S[id]? = some (.dct (tabD nq T))
theorem w_law_add {x y : Rat} {L M M' : Nat} (hx : BQ L M x) (hy : BQ L M' y) {S : Sto} {Q : D → Sto → Prop} (hL : 0 < L) (h1 : L < 2 ^ 300) (h2 : M * L < 2 ^ 300) (h3 : M' * L < 2 ^ 300) (k : Q (nq (x + y)) S) : WV (F__law_add [nq x, nq y] S) Q :=
  wv_of (e_law_add (n := 300) (bq_sz hx hL h1 h2) (bq_sz hy hL h1 h3) S) k
theorem w_law_mul {x y : Rat} {L M L' M' : Nat} (hx : BQ L M x) (hy : BQ L' M' y) {S : Sto} {Q : D → Sto → Prop} (hL : 0 < L) (hL' : 0 < L') (h1 : L < 2 ^ 300) (h2 : L' < 2 ^ 300) (h3 : M * L < 2 ^ 300) (h4 : M' * L' < 2 ^ 300) (k : Q (nq (x * y)) S) : WV (F__law_mul [nq x, nq y] S) Q :=
  wv_of (e_law_mul (n := 300) (bq_sz hx hL h1 h3) (bq_sz hy hL' h2 h4) S) k
theorem w_put {T : Pol} {e : List Int} {x : Rat} {L M M' : Nat} (hT : BT L M T) (hx : BQ L M' x) {S : Sto} {id : Nat} (hs : SR S id T) {Q : D → Sto → Prop} (hL : 0 < L) (h1 : L < 2 ^ 300) (h2 : M * L < 2 ^ 300) (h3 : M' * L < 2 ^ 300) (hl : T.length < 1000000)
    (k : ∀ S', KeepB id S S' → SR S' id (addR T e x) → Q .non S') : WV (F__law_put [.ref id, tupI e, nq x] S) Q := by
  have g := dctGet_tab (e := e) hs
  have hlt : id < S.length := lt_of_get hs
  unfold F__law_put m__law_put
  refine wfn [some (.ref id), some (tupI e), some (nq x)] rfl ?_
  repeat infer_instance
  refine ⟨⟨tabD nq T, by unfold dctOf; dsimp only; rw [hs]⟩, ?_⟩
  repeat infer_instance
  refine ⟨_, g, ?_⟩
  repeat infer_instance
  have eg : ((lookA T e).map nq).getD (.tup [.int 0, .int 1]) = nq (co T e) := by
    unfold co
    cases lookA T e <;> rfl
  rw [eg]
  refine w_law_add (hT.co e) hx hL h1 h2 h3 ?_
  repeat infer_instance
  refine ⟨id, _, _, rfl, hs, keyD_tupI e, by unfold tabD; rw [List.length_map]; exact hl, ?_⟩
  rw [putD_tab]
  refine k _ keepB_set ?_
  show (S.set id _)[id]? = _
  rw [List.getElem?_set_self hlt]
  rfl
theorem intsD_map (e : List Int) : intsD (e.map D.int) = some e := by
  induction e with
  | nil => rfl
  | cons x e ih => rw [List.map_cons, intsD, ih]; rfl
def tidyF (T : Pol) : D → Option D := fun d => match d with
  | .tup xs => (intsD xs).bind fun e => if co T e = 0 then none else some (termD (e, co T e))
  | _ => none
theorem tidyF_tup (T : Pol) (e : List Int) : tidyF T (tupI e) = if co T e = 0 then none else some (termD (e, co T e)) := by
  show (intsD (e.map D.int)).bind _ = _
  rw [intsD_map]; rfl
theorem w_tidy {T : Pol} {n : Nat} (hn : (keysA T).Nodup) (hk : KOk n (keysA T)) {S : Sto} {id : Nat} (hs : SR S id T) {Q : D → Sto → Prop} (h0 : 1 ≤ n) (hl : T.length < 100000) (k : ∀ S', Keep S S' → Q (polD (tidy T)) S') : WV (F__law_tidy [.ref id] S) Q := by
  have hkl : (keysA T).length < 100000 := by unfold keysA; rw [List.length_map]; exact hl
  have hsl : (sortL (keysA T)).length < 100000 := by rw [(perm_sort _).length_eq]; exact hkl
  unfold F__law_tidy m__law_tidy
  refine wfn [some (.ref id), none] rfl ?_
  repeat infer_instance
  refine wv_lc ((sortL (keysA T)).map tupI) (tidyF T) (by rw [List.length_map]; omega) ?_
  refine wv_seq (wv_bi ?_)
  repeat infer_instance
  refine g_sortD hs intsK_tab (sortOk_of hk h0 hkl) ?_
  refine ⟨sqRef S.length, ?_, fun S1 k1 => sqIs_ref (k1 _ _ get_new), fun d hd S1 k1 => ?_, fun i S1 k1 hi hr => ?_⟩
  · unfold sqOf
    dsimp only
    rw [get_new]
  · obtain ⟨e, he, rfl⟩ := List.mem_map.mp hd
    have hmem : e ∈ keysA T := (perm_sort _).mem_iff.mp he
    cases hk2 : lookA T e with
    | none => exact absurd hmem (lookA_none.mp hk2)
    | some y =>
      have hs1 := k1 _ _ (Keep.app _ _ _ _ hs)
      have g := dctGet_tab (e := e) hs1
      rw [hk2] at g
      have hco : co T e = y := by unfold co; rw [hk2]; rfl
      refine ⟨_, rfl, ?_⟩
      unfold L0__law_tidy
      simp only [tN, set0, setS, wipeE]
      repeat infer_instance
      refine ⟨_, g, ?_⟩
      repeat infer_instance
      refine ⟨Keep.refl _, fun hc => ?_, fun hc => ?_⟩
      · have hne : ¬ y.num = 0 := by simpa using hc
        unfold L1__law_tidy
        repeat infer_instance
        refine ⟨_, g, ?_⟩
        repeat infer_instance
        refine ⟨Keep.refl _, ?_⟩
        rw [tidyF_tup, hco, if_neg (fun z => hne (Rat.num_eq_zero.mpr z))]; rfl
      · have hz : y.num = 0 := by simpa using hc
        rw [tidyF_tup, hco, if_pos (Rat.num_eq_zero.mp hz)]
  · repeat infer_instance
    have e : ((sortL (keysA T)).map tupI).filterMap (tidyF T) = (tidy T).map termD := by
      unfold tidy
      rw [List.filterMap_map, List.map_filterMap]
      congr 1
      funext e
      show tidyF T (tupI e) = _
      rw [tidyF_tup]
      split <;> rfl
    rw [e] at hr
    refine g_tupR hr (k _ ((Keep.app _ _).trans k1))
theorem unp_d {t : List Int × Rat} {i j : Nat} {ρ : Rf.Env} {S : Sto} : tTp 2 (tCons' (tN i) (tCons' (tN j) tNil')) (termD t) ρ S = some ((ρ.set i (some (tupI t.1))).set j (some (nq t.2))) := rfl
theorem get_lt {α : Type} {l : List α} {j : Nat} {x : α} (h : l[j]? = some x) : j < l.length := by
  by_cases c : j < l.length
  · exact c
  · rw [List.getElem?_eq_none (by omega)] at h; cases h
theorem TS'.acc {n L M : Nat} {I : Pol} (hk : KOk n (keysA I)) (hb : BT L M I) {j : Nat} {t : List Int × Rat} (h : I[j]? = some t) : accR (I.take (j + 1)) = addR (accR (I.take j)) t.1 t.2 := by
  rw [take_snoc h, accR_snoc]
theorem w_end {I : Pol} {n L M : Nat} (hk : KOk n (keysA I)) (hb : BT L M I) (hf : Few 100000 (keysA I)) (h0 : 1 ≤ n) {S : Sto} {id : Nat} (hs : SR S id (accR I)) {Q : D → Sto → Prop} (k : ∀ S', Keep S S' → Q (polD (sumP I)) S') : WV (F__law_tidy [.ref id] S) Q := by
  have h := accR_all hk hb
  exact w_tidy h.nodup h.ok hs h0 (by have := h.few hf fun e he => he; omega) k
theorem w_padd {p q : Pol} {n L M : Nat} (hk : KOk n (keysA (p ++ q))) (hb : BT L M (p ++ q)) (hf : Few 100000 (keysA (p ++ q))) {S : Sto} {Q : D → Sto → Prop} (h0 : 1 ≤ n) (hL : 0 < L) (h1 : L < 2 ^ 300) (hl : (p ++ q).length < 100000) (h2 : M * 100000 * L < 2 ^ 300)
    (k : ∀ S', Keep S S' → Q (polD (sumP (p ++ q))) S') : WV (F__law_padd [polD p, polD q] S) Q := by
  have hM : M * L < 2 ^ 300 := Nat.lt_of_le_of_lt (Nat.mul_le_mul_right _ (Nat.le_mul_of_pos_right _ (by decide))) h2
  unfold F__law_padd m__law_padd
  refine wfn [some (polD p), some (polD q), none, none, none] rfl ?_
  repeat infer_instance
  refine ws_for ((p ++ q).map termD) (fun j ρ S1 => ∃ (a b : Option D), ρ = [some (polD p), some (polD q), some (.ref S.length), a, b] ∧ Keep S S1 ∧ SR S1 S.length (accR ((p ++ q).take j))) (by rw [List.length_map]; omega) ?_ (fun j x ρ S1 hx hI' => ?_) (fun ρ S1 hI' => ?_)
  · refine wv_seq ?_
    repeat infer_instance
    unfold polD
    refine g_catT (by rw [List.length_map, List.length_map]; rw [List.length_append] at hl; omega) ⟨_, rfl, ⟨_, _, rfl, Keep.app _ _, get_new⟩, fun _ _ _ _ => ?_⟩
    rw [← List.map_append]
    exact sqIs_it
  · obtain ⟨a, b, rfl, kp, hs⟩ := hI'
    rw [List.getElem?_map] at hx
    cases he : (p ++ q)[j]? with
    | none => rw [he] at hx; cases hx
    | some t =>
      rw [he] at hx
      cases hx
      have hj := get_lt he
      have ht := List.mem_of_getElem? he
      have ts := accR_take hk hb j (Nat.le_of_lt hj)
      refine ⟨_, unp_d, ?_⟩
      unfold L0__law_padd
      simp only [set0, setS]
      repeat infer_instance
      refine w_put ts.bd (hb t ht) hs hL h1 (Nat.lt_of_le_of_lt (Nat.mul_le_mul_right _ (Nat.mul_le_mul_left _ (by omega))) h2) hM (by have := ts.len; omega) fun S2 k2 hs2 => ?_
      refine ⟨_, _, rfl, kp.thenB (Nat.le_refl _) k2, ?_⟩
      rw [TS'.acc hk hb he]
      exact hs2
  · obtain ⟨a, b, rfl, kp, hs⟩ := hI'
    rw [List.length_map, List.take_length] at hs
    repeat infer_instance
    exact w_end hk hb hf h0 hs fun S2 k2 => k _ (kp.trans k2)
def scR (p : Pol) (x : Rat) : Pol := p.map fun t => (t.1, x * t.2)
theorem scR_keys {p : Pol} {x : Rat} : keysA (scR p x) = keysA p := by unfold keysA scR; rw [List.map_map]; rfl
theorem scR_bt {p : Pol} {x : Rat} {L M L' M' : Nat} (hp : BT L M p) (hx : BQ L' M' x) : BT (L' * L) (M' * M) (scR p x) := fun t ht => by
  obtain ⟨u, hu, rfl⟩ := List.mem_map.mp ht
  exact bq_mul hx (hp u hu)
end Gn

namespace Gn
open PySem PySem.Spec PyProof.Rows L2 Rf
local macro_rules
  | `(tactic| infer_instance) => `(tactic| with_reducible first
    | apply ws_seq
    | apply ws_ret
    | apply ws_if
    | apply ws_ex
    | apply ws_asg
    | apply ws_par
    | apply ws_dput
    | apply ws_lput
    | apply ws_nil
    | apply ws_retN
    | apply s0
    | apply s1
    | apply s2
    | apply s3
    | apply s4
    | apply s5
    | apply s6
    | apply s7
    | apply s8
    | apply s9
    | apply s10
    | apply s11
    | apply s12
    | apply s13
    | apply s14
    | apply s15
    | apply s16
    | apply s17
    | apply s18
    | apply s19
    | apply s20
    | apply s21
    | apply s22
    | apply s23
    | apply s24
    | apply s25
    | apply wv_op
    | apply wv_un
    | apply wv_bi
    | apply wv_call
    | apply wv_call0
    | apply wv_tup
    | apply wv_lst
    | apply wv_cons
    | apply wv_nil
    | apply wv_T
    | apply wv_tru
    | apply wv_not
    | apply wv_and
    | apply wv_or
    | apply wv_if
    | apply wv_andV
    | apply wv_orV
    | apply wv_yes
    | apply wv_ret
    | apply wv_app
    | apply wv_dget
    | apply wv_dget2
    | apply wv_din
    | apply wv_dct1
    | apply wv_dct0
    | apply wv_sx2
    | apply wv_sxH
    | apply wv_sxL
    | apply exI
    | apply v0
    | apply v1
    | apply v2
    | apply v3
    | apply v4
    | apply v5
    | apply v6
    | apply v7
    | apply v8
    | apply v9
    | apply v10
    | apply v11
    | apply v12
    | apply v13
    | apply v14
    | apply v15
    | apply v16
    | apply v17
    | apply v18
    | apply v19
    | apply v20
    | apply v21
    | apply v22
    | apply v23
    | apply v24
    | apply v25
    | apply g_add
    | apply g_sub
    | apply g_iadd
    | apply g_isub
    | apply g_lt
    | apply g_le
    | apply g_gt
    | apply g_ge
    | apply g_eq
    | apply g_ne
    | apply g_neg
    | apply g_not
    | apply g_gcd
    | apply g_abs
    | apply g_int
    | apply g_intb
    | apply g_nq0
    | apply g_nq1
    | apply g_ix0
    | apply g_ix1
    | apply g_ix2
    | apply g_lenT
    | apply exT
    | apply exTru
    | apply ifT
    | apply ifF
    | apply ifT'
    | apply ifF'
    | apply nf1
    | apply nf2
    | apply nf3
    | apply nf4
    | apply len0
    | apply len1
    | apply len2
    | apply len3
    | apply len4
    )
theorem filterMap_map_mem {α β : Type} {F : α → Option β} {f : α → β} : ∀ {l : List α}, (∀ x ∈ l, F x = some (f x)) → l.filterMap F = l.map f
  | [], _ => rfl
  | x :: l, h => by rw [List.filterMap_cons, h x List.mem_cons_self, List.map_cons, filterMap_map_mem fun y hy => h y (List.mem_cons_of_mem _ hy)]
theorem rngD_mem' {n : Nat} {x : D} (h : x ∈ rngD 0 n) : ∃ j : Nat, j < n ∧ x = .int (j : Int) := rngD_mem h
/-- the items of a comprehension over range(n) -/
theorem rngD_filterMap {n : Nat} (f : Nat → D) (g : D → Option D) (h : ∀ j, j < n → g (.int (j : Int)) = some (f j)) : (rngD 0 n).filterMap g = (List.range n).map f := by
  unfold rngD
  rw [List.filterMap_map]
  apply filterMap_map_mem
  intro j hj
  show g (.int (0 + (j : Int))) = some (f j)
  rw [Int.zero_add]
  exact h j (List.mem_range.mp hj)
def natD : D → Nat
  | .int i => i.toNat
  | _ => 0
theorem addE_range {a b : List Int} (h : a.length = b.length) : (List.range a.length).map (fun k => D.int (a.getD k 0 + b.getD k 0)) = (addE a b).map D.int := by
  apply List.ext_getElem?
  intro i
  unfold addE
  rw [List.getElem?_map, List.getElem?_map, List.getElem?_zipWith]
  by_cases c : i < a.length
  · rw [List.getElem?_range c, List.getElem?_eq_getElem c, List.getElem?_eq_getElem (show i < b.length by omega)]
    show some (D.int (a.getD i 0 + b.getD i 0)) = some (D.int (a[i] + b[i]))
    rw [List.getD_eq_getElem?_getD, List.getD_eq_getElem?_getD, List.getElem?_eq_getElem c, List.getElem?_eq_getElem (show i < b.length by omega)]
    rfl
  · rw [List.getElem?_eq_none (by rw [List.length_range]; omega), List.getElem?_eq_none (by omega)]; rfl
theorem w_pmul {p q : Pol} {n : Nat} {B B' : Int} {L M m L' M' m' : Nat} (hp : QB n B L M m p) (hq : QB n B' L' M' m' q) (hB : B + B' ≤ 1048576) (hf : Few 100000 (keysA (prodR p q))) {S : Sto} {Q : D → Sto → Prop} (h0 : 1 ≤ n) (hn : n ≤ 1000) (hL : 0 < L) (hL' : 0 < L') (h1 : L * L' < 2 ^ 300) (hM : M * L < 2 ^ 300) (hM' : M' * L' < 2 ^ 300) (hm : m * m' ≤ 10000) (hm0 : 0 < m') (hm1 : 0 < m) (h2 : M * M' * 10000 * (L * L') < 2 ^ 300)
    (k : ∀ S', Keep S S' → Q (polD (mulP p q)) S') : WV (F__law_pmul [polD p, polD q] S) Q := by
  have hLL : 0 < L * L' := Nat.mul_pos hL hL'
  have hLs : L < 2 ^ 300 := Nat.lt_of_le_of_lt (Nat.le_mul_of_pos_right _ hL') h1
  have hLs' : L' < 2 ^ 300 := Nat.lt_of_le_of_lt (Nat.le_mul_of_pos_left _ hL) h1
  have hMM : M * M' * (L * L') < 2 ^ 300 := Nat.lt_of_le_of_lt (Nat.mul_le_mul_right _ (Nat.le_mul_of_pos_right _ (by decide))) h2
  have hk := (hp.pk.prod hq.pk).kok hB
  have hb := prodR_bt hp.pb.bd hq.pb.bd
  have hml : m ≤ m * m' := Nat.le_mul_of_pos_right _ hm0
  have hml' : m' ≤ m * m' := Nat.le_mul_of_pos_left _ hm1
  have lp := hp.len
  have lq := hq.len
  have hpq : p.length * q.length ≤ m * m' := Nat.mul_le_mul lp lq
  unfold F__law_pmul m__law_pmul
  refine wfn [some (polD p), some (polD q), none, none, none, none, none, none] rfl ?_
  repeat infer_instance
  refine ws_for (p.map termD) (fun j ρ S1 => ∃ (x3 x4 x5 x6 x7 : Option D), ρ = [some (polD p), some (polD q), some (.ref S.length), x3, x4, x5, x6, x7] ∧ Keep S S1 ∧ SR S1 S.length (accR (prodR (p.take j) q))) (by rw [List.length_map]; omega) ?_ (fun j x ρ S1 hx hI' => ?_) (fun ρ S1 hI' => ?_)
  · refine wv_seq ?_
    repeat infer_instance
    exact ⟨_, rfl, ⟨_, _, _, _, _, rfl, Keep.app _ _, get_new⟩, fun _ _ _ _ => sqIs_it⟩
  · obtain ⟨x3, x4, x5, x6, x7, rfl, kp, hs⟩ := hI'
    rw [List.getElem?_map] at hx
    cases he : p[j]? with
    | none => rw [he] at hx; cases hx
    | some t =>
      rw [he] at hx
      cases hx
      have hj := get_lt he
      have ht := List.mem_of_getElem? he
      refine ⟨_, unp_d, ?_⟩
      simp only [set0, setS]
      unfold L2__law_pmul
      refine ws_for (q.map termD) (fun l ρ S1 => ∃ (x5 x6 x7 : Option D), ρ = [some (polD p), some (polD q), some (.ref S.length), some (tupI t.1), some (nq t.2), x5, x6, x7] ∧ Keep S S1 ∧ SR S1 S.length (accR (prodR (p.take j) q ++ rowR t (q.take l)))) (by rw [List.length_map]; omega) ?_ (fun l x ρ S1 hx hI' => ?_) (fun ρ S1 hI' => ?_)
      · refine wv_seq ?_
        repeat infer_instance
        refine ⟨_, rfl, ⟨_, _, _, rfl, kp, ?_⟩, fun _ _ _ _ => sqIs_it⟩
        have : rowR t (q.take 0) = [] := rfl
        rw [this, List.append_nil]
        exact hs
      · obtain ⟨x5, x6, x7, rfl, kp, hs⟩ := hI'
        rw [List.getElem?_map] at hx
        cases he2 : q[l]? with
        | none => rw [he2] at hx; cases hx
        | some u =>
          rw [he2] at hx
          cases hx
          have hl2 := get_lt he2
          have hu := List.mem_of_getElem? he2
          have hla : t.1.length = n := (hp.pk _ (List.mem_map.mpr ⟨t, ht, rfl⟩)).1
          have hlb : u.1.length = n := (hq.pk _ (List.mem_map.mpr ⟨u, hu, rfl⟩)).1
          have mem : (addE t.1 u.1, t.2 * u.2) ∈ prodR p q := List.mem_flatMap.mpr ⟨_, ht, List.mem_map.mpr ⟨_, hu, rfl⟩⟩
          have sub : ∀ x ∈ prodR (p.take j) q ++ rowR t (q.take l), x ∈ prodR p q := fun x hx => (List.mem_append.mp hx).elim (prod_sub (fun _ h => List.mem_of_mem_take h) x) fun h => by
            obtain ⟨v, hv, rfl⟩ := List.mem_map.mp h
            exact List.mem_flatMap.mpr ⟨_, ht, List.mem_map.mpr ⟨_, List.mem_of_mem_take hv, rfl⟩⟩
          have ts := accR_all (n := n) (fun e he => hk e (keys_of_sub sub e he)) (fun x hx => hb x (sub x hx))
          have len : (prodR (p.take j) q ++ rowR t (q.take l)).length < m * m' := by
            rw [List.length_append, prodR_len]
            unfold rowR
            rw [List.length_map, List.length_take, List.length_take, Nat.min_eq_left (Nat.le_of_lt hj), Nat.min_eq_left (Nat.le_of_lt hl2)]
            have : (j + 1) * q.length ≤ p.length * q.length := Nat.mul_le_mul_right _ hj
            rw [Nat.succ_mul] at this
            omega
          refine ⟨_, unp_d, ?_⟩
          simp only [set0, setS]
          unfold L1__law_pmul
          repeat infer_instance
          refine wv_lc (rngD 0 n) (fun d => some (.int (t.1.getD (natD d) 0 + u.1.getD (natD d) 0))) (by rw [rngD_len]; omega) ?_
          refine wv_rng1 ?_
          repeat infer_instance
          refine g_lenT ?_
          repeat infer_instance
          refine ⟨_, rfl, rngOk_nat (by rw [List.length_map]; omega), fun _ _ => ?_, fun d hd S2 k2 => ?_, fun i S2 k2 hi hr => ?_⟩
          · rw [List.length_map, hla]
            exact sqIs_it
          · obtain ⟨i, hi, rfl⟩ := rngD_mem hd
            refine ⟨_, rfl, wv_yes ⟨Keep.refl _, fun _ => ?_, fun z => nomatch z⟩⟩
            unfold L0__law_pmul
            simp only [tN, set0, setS, wipeE]
            have g1 : (t.1.map D.int)[i]? = some (.int (t.1.getD i 0)) := by
              rw [List.getElem?_map, List.getElem?_eq_getElem (by omega), List.getD_eq_getElem?_getD, List.getElem?_eq_getElem (by omega)]; rfl
            have g2 : (u.1.map D.int)[i]? = some (.int (u.1.getD i 0)) := by
              rw [List.getElem?_map, List.getElem?_eq_getElem (by omega), List.getD_eq_getElem?_getD, List.getElem?_eq_getElem (by omega)]; rfl
            repeat infer_instance
            refine g_ixT g1 ?_
            repeat infer_instance
            refine g_ixT g2 ?_
            repeat infer_instance
            refine ⟨Keep.refl _, ?_⟩
            show some (D.int (t.1.getD (i : Int).toNat 0 + u.1.getD (i : Int).toNat 0)) = _
            rw [Int.toNat_natCast]
          · rw [rngD_filterMap (fun k => D.int (t.1.getD k 0 + u.1.getD k 0)) _ (fun j _ => by show some (D.int (t.1.getD (j : Int).toNat 0 + u.1.getD (j : Int).toNat 0)) = _; rw [Int.toNat_natCast]), show n = t.1.length from hla.symm, addE_range (hla.trans hlb.symm)] at hr
            repeat infer_instance
            refine g_tupR hr ?_
            repeat infer_instance
            refine w_law_mul (hp.pb.bd t ht) (hq.pb.bd u hu) hL hL' hLs hLs' hM hM' ?_
            repeat infer_instance
            refine w_put (e := addE t.1 u.1) ts.bd (bq_mul (hp.pb.bd t ht) (hq.pb.bd u hu)) (k2 _ _ hs) hLL h1 (Nat.lt_of_le_of_lt (Nat.mul_le_mul_right _ (Nat.mul_le_mul_left _ (by omega))) h2) hMM (by have := ts.len; omega) fun S3 k3 hs3 => ?_
            refine ⟨_, _, _, rfl, (kp.trans k2).thenB (Nat.le_refl _) k3, ?_⟩
            have row : rowR t (q.take (l + 1)) = rowR t (q.take l) ++ [(addE t.1 u.1, t.2 * u.2)] := by
              rw [take_snoc he2]
              unfold rowR
              rw [List.map_append]
              rfl
            rw [row, ← List.append_assoc, accR_snoc]
            exact hs3
      · obtain ⟨x5, x6, x7, rfl, kp, hs⟩ := hI'
        refine ⟨_, _, _, _, _, rfl, kp, ?_⟩
        rw [List.length_map, List.take_length] at hs
        rw [take_snoc he, prodR_snoc]
        exact hs
  · obtain ⟨x3, x4, x5, x6, x7, rfl, kp, hs⟩ := hI'
    rw [List.length_map, List.take_length] at hs
    repeat infer_instance
    exact w_end hk hb hf h0 hs fun S2 k2 => k _ (kp.trans k2)
/-! ### a comparison of equal things -/
def simD : Nat → D → D → Prop
  | 0, _, _ => False
  | _ + 1, .int i, .int j => i = j
  | k + 1, .tup xs, .tup ys => xs.length = ys.length ∧ xs.length < 900 ∧ ∀ (i : Nat) (x y : D), xs[i]? = some x → ys[i]? = some y → simD k x y
  | k + 1, .kt xs, .tup ys => xs.length = ys.length ∧ xs.length < 900 ∧ ∀ (i : Nat) (x y : D), xs[i]? = some x → ys[i]? = some y → simD k x y
  | _ + 1, .non, .non => True
  | _ + 1, _, _ => False
theorem simD_refl : ∀ (k : Nat) (d : D), dOk k d → simD k d d
  | 0, _, h => h.elim
  | k + 1, d, h => by
    cases d with
    | int i => exact rfl
    | tup xs => exact ⟨rfl, h.1, fun i x y h1 h2 => by
        rw [h1] at h2
        cases h2
        exact simD_refl k x (h.2 x (List.mem_of_getElem? h1))⟩
    | _ => exact h.elim
theorem w_same_seq {k : Nat} {x : D} {xs ys : List D} (ih : ∀ (i : Nat) (x y : D), xs[i]? = some x → ys[i]? = some y → ∀ (S : Sto), WV (F__law_same k [x, y] S) fun r S' => r = .bl true ∧ Keep S S') (hl : xs.length = ys.length) (h9 : xs.length < 900) (tx : ∀ S, tyD S x = some "tuple") (lx : ∀ S, gLen [x] S = some (.int xs.length, S))
    (ix : ∀ (S : Sto) (i : Nat) (d : D), xs[i]? = some d → gIx x (.int (i : Int)) S = some (d, S)) (S : Sto) : WV (F__law_same (k + 1) [x, .tup ys] S) fun r S' => r = .bl true ∧ Keep S S' := by
  show WV (fnOf 3 (m__law_same (F__law_same k)) [x, .tup ys] S) _
  unfold m__law_same
  refine wfn [some x, some (.tup ys), none] rfl ?_
  repeat infer_instance
  refine g_isi rfl kit5 ?_
  repeat infer_instance
  refine g_isi (tx S) kit5 ?_
  repeat infer_instance
  repeat infer_instance
  refine wg_of (lx S) ?_
  repeat infer_instance
  refine ⟨fun hc => ?_, fun _ => ?_⟩
  · rw [hl] at hc; simp at hc
  repeat infer_instance
  refine wv_lc (rngD 0 ys.length) (fun _ => none) (by rw [rngD_len]; omega) ?_
  refine wv_rng1 ?_
  repeat infer_instance
  refine ⟨_, rfl, rngOk_nat (by omega), fun _ _ => sqIs_it, fun d hd S2 k2 => ?_, fun i S2 k2 hi hr => ?_⟩
  · obtain ⟨i, hi, rfl⟩ := rngD_mem hd
    have e1 : xs[i]? = some xs[i] := List.getElem?_eq_getElem (by omega)
    have e2 : ys[i]? = some ys[i] := List.getElem?_eq_getElem hi
    refine ⟨_, rfl, ?_⟩
    simp only [tN, set0, setS, wipeE]
    repeat infer_instance
    refine wg_of (ix S2 i _ e1) ?_
    repeat infer_instance
    refine g_ixT e2 ?_
    repeat infer_instance
    refine (ih i _ _ e1 e2 S2).imp fun r S3 h => ?_
    obtain ⟨rfl, k3⟩ := h
    repeat infer_instance
    exact ⟨k3, fun z => (nomatch z), fun _ => (by first | rfl | trivial)⟩
  · rw [List.filterMap_none'] at hr
    repeat infer_instance
    refine g_lenR hr ?_
    repeat infer_instance
    exact ⟨rfl, k2⟩
theorem w_same : ∀ (k : Nat) (x y : D), simD k x y → ∀ S : Sto, WV (F__law_same k [x, y] S) fun r S' => r = .bl true ∧ Keep S S'
  | 0, _, _, h, _ => h.elim
  | k + 1, x, y, h, S => by
    cases x with
    | int i =>
      cases y with
      | int j =>
        cases (show i = j from h)
        obtain ⟨G, e⟩ := e_same (k + 1) (.int i) trivial S
        exact wv_of e ⟨rfl, Keep.app _ _⟩
      | _ => exact h.elim
    | tup xs =>
      cases y with
      | tup ys => exact w_same_seq (fun i x y h1 h2 S => w_same k x y (h.2.2 i x y h1 h2) S) h.1 h.2.1 (fun _ => rfl) (fun _ => rfl) (fun S i d h => ixT h) S
      | _ => exact h.elim
    | kt xs =>
      cases y with
      | tup ys => exact w_same_seq (fun i x y h1 h2 S => w_same k x y (h.2.2 i x y h1 h2) S) h.1 h.2.1 (fun _ => rfl) (fun _ => rfl) (fun S i d h => ixK h) S
      | _ => exact h.elim
    | non =>
      cases y with
      | non =>
        show WV (fnOf 3 (m__law_same (F__law_same k)) [.non, .non] S) _
        unfold m__law_same
        refine wfn [some .non, some .non, none] rfl ?_
        repeat infer_instance
        refine g_isi rfl kitN1 ?_
        repeat infer_instance
        refine g_isi rfl kitN2 ?_
        repeat infer_instance
        refine wg_of (a := .bl true) rfl ?_
        repeat infer_instance
        exact wg_of (a := .bl true) rfl ⟨rfl, Keep.refl _⟩
      | _ => exact h.elim
    | _ => cases y <;> exact h.elim
end Gn

namespace Gn
open PySem PySem.Spec PyProof.Rows L2 Rf
local macro_rules
  | `(tactic| infer_instance) => `(tactic| with_reducible first
    | apply ws_seq
    | apply ws_ret
    | apply ws_if
    | apply ws_ex
    | apply ws_asg
    | apply ws_par
    | apply ws_dput
    | apply ws_lput
    | apply ws_nil
    | apply ws_retN
    | apply s0
    | apply s1
    | apply s2
    | apply s3
    | apply s4
    | apply s5
    | apply s6
    | apply s7
    | apply s8
    | apply s9
    | apply s10
    | apply s11
    | apply s12
    | apply s13
    | apply s14
    | apply s15
    | apply s16
    | apply s17
    | apply s18
    | apply s19
    | apply s20
    | apply s21
    | apply s22
    | apply s23
    | apply s24
    | apply s25
    | apply wv_op
    | apply wv_un
    | apply wv_bi
    | apply wv_call
    | apply wv_call0
    | apply wv_tup
    | apply wv_lst
    | apply wv_cons
    | apply wv_nil
    | apply wv_T
    | apply wv_tru
    | apply wv_not
    | apply wv_and
    | apply wv_or
    | apply wv_if
    | apply wv_andV
    | apply wv_orV
    | apply wv_yes
    | apply wv_ret
    | apply wv_app
    | apply wv_dget
    | apply wv_dget2
    | apply wv_din
    | apply wv_dct1
    | apply wv_dct0
    | apply wv_sx2
    | apply wv_sxH
    | apply wv_sxL
    | apply exI
    | apply v0
    | apply v1
    | apply v2
    | apply v3
    | apply v4
    | apply v5
    | apply v6
    | apply v7
    | apply v8
    | apply v9
    | apply v10
    | apply v11
    | apply v12
    | apply v13
    | apply v14
    | apply v15
    | apply v16
    | apply v17
    | apply v18
    | apply v19
    | apply v20
    | apply v21
    | apply v22
    | apply v23
    | apply v24
    | apply v25
    | apply g_add
    | apply g_sub
    | apply g_iadd
    | apply g_isub
    | apply g_lt
    | apply g_le
    | apply g_gt
    | apply g_ge
    | apply g_eq
    | apply g_ne
    | apply g_neg
    | apply g_not
    | apply g_gcd
    | apply g_abs
    | apply g_int
    | apply g_intb
    | apply g_nq0
    | apply g_nq1
    | apply g_ix0
    | apply g_ix1
    | apply g_ix2
    | apply g_lenT
    | apply exT
    | apply exTru
    | apply ifT
    | apply ifF
    | apply ifT'
    | apply ifF'
    | apply nf1
    | apply nf2
    | apply nf3
    | apply nf4
    | apply len0
    | apply len1
    | apply len2
    | apply len3
    | apply len4
    )
theorem w_small {r : Int} {S : Sto} {Q : D → Sto → Prop} (k : ∀ q, BQ 12 9 q → Q (nq q) S) : WV (F__law_small [.int r] S) Q := by
  have b1 := fm (x := r) (m := 19) (by decide)
  have b2 := fm (x := r.fdiv 19) (m := 4) (by decide)
  have hb : 0 < 1 + (r.fdiv 19).fmod 4 := by omega
  have bp : BP 12 9 (r.fmod 19 - 9, 1 + (r.fdiv 19).fmod 4) := by
    refine ⟨hb, ?_, ?_⟩
    · show (1 + (r.fdiv 19).fmod 4) ∣ ((12 : Nat) : Int)
      have h4 : (r.fdiv 19).fmod 4 = 0 ∨ (r.fdiv 19).fmod 4 = 1 ∨ (r.fdiv 19).fmod 4 = 2 ∨ (r.fdiv 19).fmod 4 = 3 := by omega
      rcases h4 with h | h | h | h <;> rw [h] <;> decide
    · show (r.fmod 19 - 9).natAbs ≤ 9 * (1 + (r.fdiv 19).fmod 4).natAbs
      omega
  unfold F__law_small m__law_small
  refine wfn [some (.int r)] rfl ?_
  repeat infer_instance
  refine g_mod (by decide) ?_
  repeat infer_instance
  refine g_div (divOk_s (by decide) (by decide)) ?_
  repeat infer_instance
  refine g_mod (by decide) ?_
  repeat infer_instance
  refine wv_of (e_frac (n := 6) (by omega) (by unfold szI; omega) S) (k _ bp.norm)
theorem w_rep0 {n : Nat} {S : Sto} {Q : D → Sto → Prop} (h1 : 1 ≤ n) (h2 : n ≤ 1000) (k : Q (tupI (List.replicate n 0)) S) : WG (gRepT (.tup [.int 0]) (.int (n : Int)) S) Q := by
  by_cases c : n = 1
  · subst c
    exact ⟨_, _, rfl, k⟩
  · refine ⟨_, _, ?_, k⟩
    unfold gRepT
    dsimp only
    rw [if_neg (by omega), if_pos ⟨by omega, by omega, by show 1 ≤ 1000; decide, fun z => (by cases z)⟩, Int.toNat_natCast]
    unfold tupI
    congr 2
    induction n with
    | zero => rfl
    | succ n ih => simp [List.replicate_succ]
theorem tidy_one {n : Nat} {x : Rat} (hx : x ≠ 0) : tidy [(List.replicate n 0, x)] = [(List.replicate n 0, x)] := by
  have : co [(List.replicate n 0, x)] (List.replicate n 0) = x := by
    unfold co
    rw [lookA_cons, if_pos rfl]; rfl
  unfold tidy keysA
  rw [List.map_cons, List.map_nil]
  show (([List.replicate n 0] : List (List Int))).filterMap _ = _
  rw [List.filterMap_cons, this, if_neg hx]; rfl
theorem zeros_ok {n : Nat} : EOk n (List.replicate n 0) := ⟨List.length_replicate, fun m hm => by rw [List.eq_of_mem_replicate hm]; decide⟩
theorem w_law_const {n : Nat} {x : Rat} {S : Sto} {Q : D → Sto → Prop} (h0 : 1 ≤ n) (hn : n ≤ 1000) (k : ∀ S', Keep S S' → Q (polD (tidy [(List.replicate n 0, x)])) S') : WV (F__law_const [.int (n : Int), nq x] S) Q := by
  unfold F__law_const m__law_const
  refine wfn [some (.int (n : Int)), some (nq x)] rfl ?_
  repeat infer_instance
  refine w_rep0 h0 hn ?_
  repeat infer_instance
  refine ⟨keyL (List.replicate n 0), keyD_tupI _, get_new, ?_⟩
  have hs : SR ((S ++ [O.dct []]).set S.length (.dct [(keyL (List.replicate n 0), nq x)])) S.length [(List.replicate n 0, x)] := by
    show (List.set _ _ _)[S.length]? = _
    rw [List.getElem?_set_self (by simp)]; rfl
  repeat infer_instance
  refine w_tidy (n := n) (by unfold keysA; simp) (fun e he => ?_) hs h0 (by show 1 < 100000; decide) fun S2 k2 => k _ (((Keep.app _ _).put (Nat.le_refl _) _).trans k2)
  unfold keysA at he
  rw [List.map_cons, List.map_nil, List.mem_singleton] at he
  subst he
  exact zeros_ok
/-- p to the powers 0 to 3 -/
def powP (n : Nat) (p : Pol) : Nat → Pol
  | 0 => oneP n
  | k + 1 => mulP (powP n p k) p
theorem w_ppow {p : Pol} {n k : Nat} {S : Sto} {Q : D → Sto → Prop} (h0 : 1 ≤ n) (hn : n ≤ 1000) (hk : k < 1000)
    (hm : ∀ j, j < k → ∀ (S : Sto) (Q : D → Sto → Prop), (∀ S', Keep S S' → Q (polD (powP n p (j + 1))) S') → WV (F__law_pmul [polD (powP n p j), polD p] S) Q)
    (q : ∀ S', Keep S S' → Q (polD (powP n p k)) S') : WV (F__law_ppow [.int (n : Int), polD p, .int (k : Int)] S) Q := by
  unfold F__law_ppow m__law_ppow
  refine wfn [some (.int (n : Int)), some (polD p), some (.int (k : Int)), none, none] rfl ?_
  repeat infer_instance
  refine w_law_const (x := 1) h0 hn fun S1 k1 => ?_
  rw [tidy_one (by decide)]
  repeat infer_instance
  refine ws_for (rngD 0 k) (fun j ρ S2 => ∃ b : Option D, ρ = [some (.int (n : Int)), some (polD p), some (.int (k : Int)), some (polD (powP n p j)), b] ∧ Keep S S2) (by rw [rngD_len]; omega) ?_ (fun j x ρ S2 hx hI => ?_) (fun ρ S2 hI => ?_)
  · refine wv_rng1 ?_
    repeat infer_instance
    exact ⟨_, rfl, rngOk_nat (by omega), ⟨_, rfl, k1⟩, fun _ _ _ _ => by rw [Int.toNat_natCast]; exact sqIs_it⟩
  · obtain ⟨b, rfl, kp⟩ := hI
    have hj : j < k := by have := get_lt hx; rwa [rngD_len] at this
    refine ⟨_, rfl, ?_⟩
    unfold L0__law_ppow
    simp only [tN, set0, setS]
    repeat infer_instance
    refine hm j hj _ _ fun S3 k3 => ?_
    exact ⟨_, rfl, kp.trans k3⟩
  · obtain ⟨b, rfl, kp⟩ := hI
    rw [rngD_len]
    repeat infer_instance
    exact q _ kp
/-- a drawn polynomial -/
theorem w_poly {n : Nat} {new : List Int} {di : Nat} {at_ most high : Int} {S : Sto} (hd : S[di]? = some (.lst (new.map D.int))) {Q : D → Sto → Prop} (h0 : 1 ≤ n) (hn : n ≤ 4) (hl0 : 0 < new.length) (hl : new.length < 1000) (hm0 : 0 ≤ most) (hm : most ≤ 60) (hh0 : 0 ≤ high) (hh : high ≤ 1000)
    (k : ∀ p S', QB n (high + 1) 12 (9 * most.toNat) most.toNat p → Keep S S' → Q (polD p) S') : WV (F__law_poly [.int (n : Int), .ref di, .int at_, .int most, .int high] S) Q := by
  have idx : ∀ (S' : Sto) (i : Int), S'[di]? = some (.lst (new.map D.int)) → ∀ (Q : D → Sto → Prop), (∀ r, Q (.int r) S') → WG (gIx (.ref di) (.int (i.fmod (new.length : Int))) S') Q := fun S' i hs Q q => by
    have b := fm (x := i) (m := (new.length : Int)) (by omega)
    obtain ⟨j, hj⟩ : ∃ j : Nat, i.fmod (new.length : Int) = (j : Int) := ⟨(i.fmod (new.length : Int)).toNat, by omega⟩
    rw [hj]
    have hlt : j < new.length := by omega
    exact g_ixR hs (by rw [List.getElem?_map, List.getElem?_eq_getElem hlt]; rfl) (q _)
  unfold F__law_poly m__law_poly
  refine wfn [some (.int (n : Int)), some (.ref di), some (.int at_), some (.int most), some (.int high), none, none, none, none, none] rfl ?_
  repeat infer_instance
  have hd1 : (S ++ [O.dct []])[di]? = some (.lst (new.map D.int)) := Keep.app _ _ _ _ hd
  have fin : ∀ c : Int, WS (sFor (tN 6) (fun _ S' => some (.val (sqIt (rngD 0 (c.fmod (most + 1)).toNat)) S')) L1__law_poly [some (.int (n : Int)), some (.ref di), some (.int at_), some (.int most), some (.int high), some (.ref S.length), none, none, none, none] (S ++ [O.dct []])) (fun ρ S1 => ∃ (a b c d : Option D) (T I : Pol) (j : Nat), ρ = [some (.int (n : Int)), some (.ref di), some (.int at_), some (.int most), some (.int high), some (.ref S.length), a, b, c, d] ∧ Keep S S1 ∧ SR S1 S.length T ∧ TS' n 12 9 j T I ∧ PK n (high + 1) I ∧ j ≤ most.toNat) (fun _ _ => False) (fun _ _ => False) (fun _ _ => False) := by
    intro c
    have bc := fm (x := c) (m := most + 1) (by omega)
    refine ws_for (rngD 0 (c.fmod (most + 1)).toNat) (fun j ρ S1 => ∃ (a b c d : Option D) (T I : Pol), ρ = [some (.int (n : Int)), some (.ref di), some (.int at_), some (.int most), some (.int high), some (.ref S.length), a, b, c, d] ∧ Keep S S1 ∧ SR S1 S.length T ∧ TS' n 12 9 j T I ∧ PK n (high + 1) I) (by rw [rngD_len]; omega) ?_ (fun j x ρ S1 hx hI => ?_) (fun ρ S1 hI => ?_)
    · refine ⟨_, _, rfl, ⟨none, none, none, none, [], [], rfl, Keep.app _ _, get_new, TS'.nil, fun e he => (by cases he)⟩, fun _ _ _ _ => sqIs_it⟩
    · obtain ⟨a, b, c', d, T, I, rfl, kp, hs, ts, pk⟩ := hI
      have hj : j < (c.fmod (most + 1)).toNat := by have := get_lt hx; rwa [rngD_len] at this
      obtain ⟨j', hj', rfl⟩ := rngD_mem (List.mem_of_getElem? hx)
      refine ⟨_, rfl, ?_⟩
      unfold L1__law_poly
      simp only [tN, set0, setS]
      repeat infer_instance
      refine g_lenR (kp _ _ hd) ?_
      rw [List.length_map]
      refine g_mod (by omega) ?_
      refine idx S1 _ (kp _ _ hd) _ fun r => ?_
      repeat infer_instance
      refine wv_lc (rngD 0 n) (fun x => some (.int ((r.fdiv (3 + 7 * (natD x : Int))).fmod (high + 1)))) (by rw [rngD_len]; omega) ?_
      refine wv_rng1 ?_
      repeat infer_instance
      refine ⟨_, rfl, rngOk_nat (by omega), fun _ _ => by rw [Int.toNat_natCast]; exact sqIs_it, fun x hxm S2 k2 => ?_, fun i S2 k2 hi hr => ?_⟩
      · obtain ⟨i, hi, rfl⟩ := rngD_mem hxm
        refine ⟨_, rfl, wv_yes ⟨Keep.refl _, fun _ => ?_, fun z => nomatch z⟩⟩
        unfold L0__law_poly
        simp only [tN, set0, setS, wipeE]
        repeat infer_instance
        refine g_mul (mulOk_s (by decide)) ?_
        repeat infer_instance
        refine g_div (divOk_s (by omega) (by omega)) ?_
        repeat infer_instance
        refine g_mod (by omega) ?_
        refine ⟨Keep.refl _, ?_⟩
        show some (D.int ((r.fdiv (3 + 7 * ((i : Int).toNat : Int))).fmod (high + 1))) = _
        rw [Int.toNat_natCast]
      · rw [rngD_filterMap (fun i => D.int ((r.fdiv (3 + 7 * (i : Int))).fmod (high + 1))) _ (fun j _ => by show some (D.int ((r.fdiv (3 + 7 * ((j : Int).toNat : Int))).fmod (high + 1))) = _; rw [Int.toNat_natCast])] at hr
        have ee : (List.range n).map (fun i : Nat => D.int ((r.fdiv (3 + 7 * (i : Int))).fmod (high + 1))) = (((List.range n).map fun i : Nat => (r.fdiv (3 + 7 * (i : Int))).fmod (high + 1))).map D.int := by rw [List.map_map]; rfl
        rw [ee] at hr
        have eb : EB n (high + 1) ((List.range n).map fun i : Nat => (r.fdiv (3 + 7 * (i : Int))).fmod (high + 1)) := by
          refine ⟨by rw [List.length_map, List.length_range], fun m hm => ?_⟩
          obtain ⟨i, _, rfl⟩ := List.mem_map.mp hm
          have := fm (x := r.fdiv (3 + 7 * (i : Int))) (m := high + 1) (by omega)
          omega
        generalize ((List.range n).map fun i : Nat => (r.fdiv (3 + 7 * (i : Int))).fmod (high + 1)) = e at hr eb
        repeat infer_instance
        refine g_tupR hr ?_
        repeat infer_instance
        refine g_div (divOk_s (by decide) (by decide)) ?_
        repeat infer_instance
        refine g_mul (mulOk_s (by decide)) ?_
        repeat infer_instance
        refine w_small fun q hq => ?_
        repeat infer_instance
        refine w_put (e := e) ts.bd hq (k2 _ _ hs) (by decide) (by decide) (by omega) (by decide) (by have := ts.len; omega) fun S3 k3 hs3 => ?_
        refine ⟨_, _, _, _, _, I ++ [(e, q)], rfl, (kp.trans k2).thenB (Nat.le_refl _) k3, hs3, ts.add ⟨eb.1, fun m hm => by have := eb.2 m hm; constructor <;> omega⟩ hq, fun a ha => ?_⟩
        unfold keysA at ha
        rw [List.map_append, List.mem_append] at ha
        rcases ha with ha | ha
        · exact pk a ha
        · rw [List.map_cons, List.map_nil, List.mem_singleton] at ha
          subst ha
          exact eb
    · obtain ⟨a, b, c', d, T, I, rfl, kp, hs, ts, pk⟩ := hI
      rw [rngD_len] at ts
      exact ⟨a, b, c', d, T, I, _, rfl, kp, hs, ts, pk, by omega⟩
  have rest : ∀ ρ S1, (∃ (a b c d : Option D) (T I : Pol) (j : Nat), ρ = [some (.int (n : Int)), some (.ref di), some (.int at_), some (.int most), some (.int high), some (.ref S.length), a, b, c, d] ∧ Keep S S1 ∧ SR S1 S.length T ∧ TS' n 12 9 j T I ∧ PK n (high + 1) I ∧ j ≤ most.toNat) → WS (sRet (mCall F__law_tidy (mCons (mVar 5) mNil)) ρ S1) (fun _ S1 => Q .non S1) Q (fun _ _ => False) (fun _ _ => False) := by
    rintro ρ S1 ⟨a, b, c, d, T, I, j, rfl, kp, hs, ts, pk, hj⟩
    repeat infer_instance
    refine w_tidy ts.nodup ts.ok hs h0 (by have := ts.len; omega) fun S2 k2 => ?_
    obtain ⟨p1, p2, p3⟩ := ts.pb
    refine k _ _ ⟨⟨p1.wf, p1.bd.mono (Nat.mul_le_mul_left _ hj)⟩, fun e he => pk e (ts.sub e (tidy_keys e he)), Nat.le_trans p2 hj⟩ (kp.trans k2)
  -- the number of the terms
  have it : ∃ c : Int, (mRng1 (mCons (mOp gMod (mOp gIx (mVar 1) (mOp gMod (mVar 2) (mBi gLen (mCons (mVar 1) mNil)))) (mOp gAdd (mVar 3) (mRet (.int 1)))) mNil)) [some (.int (n : Int)), some (.ref di), some (.int at_), some (.int most), some (.int high), some (.ref S.length), none, none, none, none] (S ++ [O.dct []]) = some (.val (sqIt (rngD 0 (c.fmod (most + 1)).toNat)) (S ++ [O.dct []])) := by
    have : WV ((mRng1 (mCons (mOp gMod (mOp gIx (mVar 1) (mOp gMod (mVar 2) (mBi gLen (mCons (mVar 1) mNil)))) (mOp gAdd (mVar 3) (mRet (.int 1)))) mNil)) [some (.int (n : Int)), some (.ref di), some (.int at_), some (.int most), some (.int high), some (.ref S.length), none, none, none, none] (S ++ [O.dct []])) (fun sq S' => ∃ c : Int, sq = sqIt (rngD 0 (c.fmod (most + 1)).toNat) ∧ S' = S ++ [O.dct []]) := by
      refine wv_rng1 ?_
      repeat infer_instance
      refine g_lenR hd1 ?_
      rw [List.length_map]
      refine g_mod (by omega) ?_
      refine idx _ _ hd1 _ fun r => ?_
      repeat infer_instance
      refine g_mod (by omega) ?_
      repeat infer_instance
      have bc := fm (x := r) (m := most + 1) (by omega)
      refine ⟨_, rfl, ?_, r, rfl, rfl⟩
      unfold rngOk
      rw [Bool.and_eq_true]
      exact ⟨decide_eq_true (by omega), decide_eq_true (by omega)⟩
    obtain ⟨sq, S', e, c, rfl, rfl⟩ := this
    exact ⟨c, e⟩
  obtain ⟨c, ec⟩ := it
  have f := fin c
  unfold sFor sB at f ⊢
  rw [ec]
  exact WS.imp f rest (fun _ _ h => h.elim) (fun _ _ h => h) (fun _ _ h => h)
end Gn

namespace Gn
open PySem PySem.Spec PyProof.Rows L2 Rf
local macro_rules
  | `(tactic| infer_instance) => `(tactic| with_reducible first
    | apply ws_seq
    | apply ws_ret
    | apply ws_if
    | apply ws_ex
    | apply ws_asg
    | apply ws_par
    | apply ws_dput
    | apply ws_lput
    | apply ws_nil
    | apply ws_retN
    | apply s0
    | apply s1
    | apply s2
    | apply s3
    | apply s4
    | apply s5
    | apply s6
    | apply s7
    | apply s8
    | apply s9
    | apply s10
    | apply s11
    | apply s12
    | apply s13
    | apply s14
    | apply s15
    | apply s16
    | apply s17
    | apply s18
    | apply s19
    | apply s20
    | apply s21
    | apply s22
    | apply s23
    | apply s24
    | apply s25
    | apply wv_op
    | apply wv_un
    | apply wv_bi
    | apply wv_call
    | apply wv_call0
    | apply wv_tup
    | apply wv_lst
    | apply wv_cons
    | apply wv_nil
    | apply wv_T
    | apply wv_tru
    | apply wv_not
    | apply wv_and
    | apply wv_or
    | apply wv_if
    | apply wv_andV
    | apply wv_orV
    | apply wv_yes
    | apply wv_ret
    | apply wv_app
    | apply wv_dget
    | apply wv_dget2
    | apply wv_din
    | apply wv_dct1
    | apply wv_dct0
    | apply wv_sx2
    | apply wv_sxH
    | apply wv_sxL
    | apply exI
    | apply v0
    | apply v1
    | apply v2
    | apply v3
    | apply v4
    | apply v5
    | apply v6
    | apply v7
    | apply v8
    | apply v9
    | apply v10
    | apply v11
    | apply v12
    | apply v13
    | apply v14
    | apply v15
    | apply v16
    | apply v17
    | apply v18
    | apply v19
    | apply v20
    | apply v21
    | apply v22
    | apply v23
    | apply v24
    | apply v25
    | apply g_add
    | apply g_sub
    | apply g_iadd
    | apply g_isub
    | apply g_lt
    | apply g_le
    | apply g_gt
    | apply g_ge
    | apply g_eq
    | apply g_ne
    | apply g_neg
    | apply g_not
    | apply g_gcd
    | apply g_abs
    | apply g_int
    | apply g_intb
    | apply g_nq0
    | apply g_nq1
    | apply g_ix0
    | apply g_ix1
    | apply g_ix2
    | apply g_lenT
    | apply exT
    | apply exTru
    | apply ifT
    | apply ifF
    | apply ifT'
    | apply ifF'
    | apply nf1
    | apply nf2
    | apply nf3
    | apply nf4
    | apply len0
    | apply len1
    | apply len2
    | apply len3
    | apply len4
    )
theorem dOk_int (k : Nat) (i : Int) : dOk (k + 1) (.int i) := trivial
theorem dOk_tupI {k : Nat} {e : List Int} (h : e.length < 900) : dOk (k + 2) (tupI e) := ⟨by rw [List.length_map]; exact h, fun x hx => by
  obtain ⟨i, _, rfl⟩ := List.mem_map.mp hx
  exact trivial⟩
theorem dOk_nqk {k : Nat} (q : Rat) : dOk (k + 2) (nq q) := ⟨by show 2 < 900; decide, fun x hx => by
  rcases List.mem_cons.mp hx with rfl | hx
  · exact trivial
  · rcases List.mem_cons.mp hx with rfl | hx
    · exact trivial
    · cases hx⟩
theorem dOk_pol {k : Nat} {p : Pol} (h : p.length < 900) (hk : ∀ e ∈ keysA p, e.length < 900) : dOk (k + 4) (polD p) := ⟨by rw [List.length_map]; exact h, fun x hx => by
  obtain ⟨t, ht, rfl⟩ := List.mem_map.mp hx
  refine ⟨by show 2 < 900; decide, fun y hy => ?_⟩
  rcases List.mem_cons.mp hy with rfl | hy
  · exact dOk_tupI (hk _ (List.mem_map.mpr ⟨t, ht, rfl⟩))
  · rcases List.mem_cons.mp hy with rfl | hy
    · exact dOk_nqk _
    · cases hy⟩
theorem w_sameD {x y : D} (h : simD 40 x y) {S : Sto} {Q : D → Sto → Prop} (k : ∀ S', Keep S S' → Q (.bl true) S') : WV (F__law_same 40 [x, y] S) Q :=
  (w_same 40 x y h S).imp fun r S' ⟨e, k1⟩ => e ▸ k S' k1
theorem w_sameP {n : Nat} {p : Pol} (hw : WF n p) (hn : n < 900) (h : p.length < 900) {S : Sto} {Q : D → Sto → Prop} (k : ∀ S', Keep S S' → Q (.bl true) S') : WV (F__law_same 40 [polD p, polD p] S) Q :=
  w_sameD (simD_refl 40 _ (dOk_pol h fun e he => by rw [(hw.ok e he).1]; exact hn)) k
theorem w_cell {ns : List Int} {k : Nat} {S : Sto} {Q : D → Sto → Prop} (h : ∀ c : Int, Q (.int c) S) : WV (F__law_cell [.fro (ns.map D.int), .int (k : Int)] S) Q := by
  obtain ⟨c, e⟩ := e_cell (ns := ns) (k := k) S
  exact wv_of e (h c)
theorem w_draws {c : Int} {n : Nat} {S : Sto} {Q : D → Sto → Prop} (hn : n < 900) (h : ∀ (new : List Int) (S' : Sto) (i : Nat), new.length = n → (∀ r ∈ new, 0 ≤ r ∧ r < 4096) → Keep S S' → S.length ≤ i → S'[i]? = some (.lst (new.map D.int)) → Q (.ref i) S') : WV (F__law_draws [.int c, .int (n : Int)] S) Q := by
  obtain ⟨new, h1, h2, e⟩ := e_draws c n S hn
  exact wv_of e (h new _ _ h1 h2 (Keep.app _ _) (Nat.le_refl _) get_new)
/-- one of the draws -/
theorem g_draw {new : List Int} {m : Nat} (hl : new.length = m) (hb : ∀ r ∈ new, 0 ≤ r ∧ r < 4096) {di : Nat} {S : Sto} (hs : S[di]? = some (.lst (new.map D.int))) {j : Nat} (hj : j < m) {Q : D → Sto → Prop} (h : ∀ r : Int, 0 ≤ r → r < 4096 → Q (.int r) S) : WG (gIx (.ref di) (.int (j : Int)) S) Q := by
  have hlt : j < new.length := by omega
  have b := hb _ (List.getElem_mem hlt)
  exact g_ixR hs (by rw [List.getElem?_map, List.getElem?_eq_getElem hlt]; rfl) (h _ b.1 b.2)
end Gn

namespace Gn
open PySem PySem.Spec PyProof.Rows L2 Rf
local macro_rules
  | `(tactic| infer_instance) => `(tactic| with_reducible first
    | apply ws_seq
    | apply ws_ret
    | apply ws_if
    | apply ws_ex
    | apply ws_asg
    | apply ws_par
    | apply ws_dput
    | apply ws_lput
    | apply ws_nil
    | apply ws_retN
    | apply s0
    | apply s1
    | apply s2
    | apply s3
    | apply s4
    | apply s5
    | apply s6
    | apply s7
    | apply s8
    | apply s9
    | apply s10
    | apply s11
    | apply s12
    | apply s13
    | apply s14
    | apply s15
    | apply s16
    | apply s17
    | apply s18
    | apply s19
    | apply s20
    | apply s21
    | apply s22
    | apply s23
    | apply s24
    | apply s25
    | apply wv_op
    | apply wv_un
    | apply wv_bi
    | apply wv_call
    | apply wv_call0
    | apply wv_tup
    | apply wv_lst
    | apply wv_cons
    | apply wv_nil
    | apply wv_T
    | apply wv_tru
    | apply wv_not
    | apply wv_and
    | apply wv_or
    | apply wv_if
    | apply wv_andV
    | apply wv_orV
    | apply wv_yes
    | apply wv_ret
    | apply wv_app
    | apply wv_dget
    | apply wv_dget2
    | apply wv_din
    | apply wv_dct1
    | apply wv_dct0
    | apply wv_sx2
    | apply wv_sxH
    | apply wv_sxL
    | apply exI
    | apply v0
    | apply v1
    | apply v2
    | apply v3
    | apply v4
    | apply v5
    | apply v6
    | apply v7
    | apply v8
    | apply v9
    | apply v10
    | apply v11
    | apply v12
    | apply v13
    | apply v14
    | apply v15
    | apply v16
    | apply v17
    | apply v18
    | apply v19
    | apply v20
    | apply v21
    | apply v22
    | apply v23
    | apply v24
    | apply v25
    | apply g_add
    | apply g_sub
    | apply g_iadd
    | apply g_isub
    | apply g_lt
    | apply g_le
    | apply g_gt
    | apply g_ge
    | apply g_eq
    | apply g_ne
    | apply g_neg
    | apply g_not
    | apply g_gcd
    | apply g_abs
    | apply g_int
    | apply g_intb
    | apply g_nq0
    | apply g_nq1
    | apply g_ix0
    | apply g_ix1
    | apply g_ix2
    | apply g_lenT
    | apply exT
    | apply exTru
    | apply ifT
    | apply ifF
    | apply ifT'
    | apply ifF'
    | apply nf1
    | apply nf2
    | apply nf3
    | apply nf4
    | apply len0
    | apply len1
    | apply len2
    | apply len3
    | apply len4
    )
/-! ### max, sum -/
theorem intsD_map' (e : List Int) : intsD (e.map D.int) = some e := by
  induction e with
  | nil => rfl
  | cons a e ih =>
    rw [List.map_cons]
    show (intsD (e.map D.int)).map (a :: ·) = _
    rw [ih]; rfl
theorem g_sumT {e : List Int} {S : Sto} {Q : D → Sto → Prop} (q : Q (.int e.sum) S) : WG (gSum [tupI e] S) Q := by
  have h1 : gSumL [tupI e] S = none := rfl
  have h2 : gSumT [tupI e] S = some (.int e.sum, S) := by
    show ((some (e.map D.int)).bind fun ds => (intsD ds).map fun ns => (D.int ns.sum, S)) = _
    rw [Option.bind_some, intsD_map']; rfl
  exact ⟨_, _, by unfold gSum; rw [h1]; exact h2, q⟩
theorem lstOf_ref {S : Sto} {i : Nat} {xs : List D} (h : S[i]? = some (.lst xs)) : lstOf S (.ref i) = some xs := by unfold lstOf; dsimp only; rw [h]
theorem g_sumL {e : List Int} {S : Sto} {i : Nat} (h : S[i]? = some (.lst (e.map D.int))) {Q : D → Sto → Prop} (q : Q (.int e.sum) S) : WG (gSum [.ref i] S) Q := ⟨_, _, by
  unfold gSum gSumL
  dsimp only
  rw [lstOf_ref h, Option.bind_some, intsD_map']; rfl, q⟩
theorem g_max2 {i j : Int} {S : Sto} {Q : D → Sto → Prop} (q : Q (.int (max i j)) S) : WG (gMax [.int i, .int j] S) Q := ⟨_, _, rfl, by
  have : (if j > i then j else i) = max i j := by
    by_cases c : j > i
    · rw [if_pos c, Int.max_eq_right (by omega)]
    · rw [if_neg c, Int.max_eq_left (by omega)]
  rw [this]
  exact q⟩
theorem g_maxL {x : Int} {e : List Int} {S : Sto} {i : Nat} (h : S[i]? = some (.lst ((x :: e).map D.int))) {Q : D → Sto → Prop} (q : Q (.int (e.foldl max x)) S) : WG (gMax [.ref i] S) Q := ⟨_, _, by
  unfold gMax gMax2 gMaxL
  dsimp only
  rw [lstOf_ref h, Option.bind_some, intsD_map']; rfl, q⟩
theorem g_maxD {e : List Int} {d : Int} {S : Sto} {i : Nat} (h : S[i]? = some (.lst (e.map D.int))) (hd : ∀ x ∈ e, d ≤ x) {Q : D → Sto → Prop} (q : Q (.int (e.foldl max d)) S) : WG (gMaxD (.ref i) (.int d) S) Q := by
  cases e with
  | nil => exact ⟨_, _, by unfold gMaxD; rw [lstOf_ref h]; rfl, q⟩
  | cons x r =>
    refine ⟨_, _, ?_, q⟩
    unfold gMaxD
    rw [lstOf_ref h, Option.bind_some, intsD_map']
    show some (D.int (r.foldl max x), S) = _
    rw [List.foldl_cons, Int.max_eq_right (hd x List.mem_cons_self)]
theorem g_rev {xs : List D} {S : Sto} {Q : D → Sto → Prop} (q : Q (.tup xs.reverse) S) : WG (gRev (.tup xs) S) Q := ⟨_, _, rfl, q⟩
theorem g_revL {xs : List D} {S : Sto} {i : Nat} (h : S[i]? = some (.lst xs)) {Q : D → Sto → Prop} (q : Q (.ref S.length) (S ++ [.lst xs.reverse])) : WG (gRev (.ref i) S) Q := ⟨_, _, by
  unfold gRev
  rw [show tupOf (.ref i) = none from rfl]
  dsimp only
  rw [lstOf_ref h]; rfl, q⟩
theorem g_catL {i j : Nat} {xs ys : List D} {S : Sto} {Q : D → Sto → Prop} (h1 : S[i]? = some (.lst xs)) (h2 : S[j]? = some (.lst ys)) (hl : xs.length + ys.length ≤ 1000000) (q : Q (.ref S.length) (S ++ [.lst (xs ++ ys)])) : WG (gAdd (.ref i) (.ref j) S) Q := ⟨_, _, by
  show gCat (.ref i) (.ref j) S = _
  unfold gCat
  dsimp only
  rw [h1, h2]
  dsimp only
  rw [if_pos hl], q⟩
theorem ws_cut {a b : MS} {ρ : Rf.Env} {S : Sto} {N B C : Rf.Env → Sto → Prop} {T : D → Sto → Prop} (M : Rf.Env → Sto → Prop) (h : WS (a ρ S) M T B C) (k : ∀ ρ1 S1, M ρ1 S1 → WS (b ρ1 S1) N T B C) : WS (sSeq a b ρ S) N T B C := ws_seq (h.imp k (fun _ _ h => h) (fun _ _ h => h) (fun _ _ h => h))
theorem ws_mid {r : Option RS} {N B C : Rf.Env → Sto → Prop} {T : D → Sto → Prop} (M : Rf.Env → Sto → Prop) (h : WS r M T B C) (k : ∀ ρ1 S1, M ρ1 S1 → N ρ1 S1) : WS r N T B C := h.imp k (fun _ _ h => h) (fun _ _ h => h) (fun _ _ h => h)
theorem take_next {α : Type} {l : List α} {j : Nat} {x : α} (h : l[j]? = some x) : l.take (j + 1) = l.take j ++ [x] := by rw [List.take_succ, h]; rfl
theorem g_drawE {new : List Int} {m : Nat} (hl : new.length = m) {di : Nat} {S : Sto} (hs : S[di]? = some (.lst (new.map D.int))) {j : Nat} (hj : j < m) {Q : D → Sto → Prop} (h : Q (.int (new.getD j 0)) S) : WG (gIx (.ref di) (.int (j : Int)) S) Q := by
  have hlt : j < new.length := by omega
  refine g_ixR hs (x := .int (new.getD j 0)) (by rw [List.getElem?_map, List.getElem?_eq_getElem hlt, List.getD_eq_getElem?_getD, List.getElem?_eq_getElem hlt]; rfl) h
/-- a comprehension over the terms of a polynomial -/
theorem wv_lcP {vs : List Nat} {i j : Nat} {c : M Bool} {el : M D} {ρ : Rf.Env} {S : Sto} {Q : D → Sto → Prop} {m : M D} {p : Pol} (f : List Int × Rat → D) (hl : p.length < 1000)
    (hm : m ρ S = some (.val (polD p) S)) (hc : c = mYes)
    (hb : ∀ t ∈ p, ∀ S2, Keep S S2 → WV (el (((wipeE ρ vs).set i (some (tupI t.1))).set j (some (nq t.2))) S2) fun d S3 => Keep S2 S3 ∧ d = f t)
    (q : ∀ i S2, Keep S S2 → S.length ≤ i → S2[i]? = some (.lst (p.map f)) → Q (.ref i) S2) : WV (mLc vs (tTp 2 (tCons' (tN i) (tCons' (tN j) tNil'))) (mSeq m) c el ρ S) Q := by
  subst hc
  let F : D → Option D := fun d => match d with
    | .tup [.tup e, .tup [.int a, .int b]] => (intsD e).map fun e => f (e, mkRat a b.toNat)
    | _ => none
  have hF : ∀ t : List Int × Rat, F (termD t) = some (f t) := fun t => by
    show (intsD (t.1.map D.int)).map (fun e => f (e, mkRat t.2.num ((t.2.den : Int)).toNat)) = _
    rw [intsD_map', Int.toNat_natCast, Rat.mkRat_self]; rfl
  refine wv_lc (p.map termD) F (by rw [List.length_map]; omega) ?_
  refine wv_seq (wv_of hm ⟨_, rfl, fun _ _ => sqIs_it, fun x hx S2 k2 => ?_, fun i S2 k2 hi hr => q i S2 k2 hi ?_⟩)
  · obtain ⟨t, ht, rfl⟩ := List.mem_map.mp hx
    refine ⟨_, unp_d, wv_yes ⟨Keep.refl _, fun _ => ?_, fun z => nomatch z⟩⟩
    exact (hb t ht S2 k2).imp fun d S3 h => ⟨h.1, by rw [hF, h.2]⟩
  · rw [hr, List.filterMap_map]
    congr 2
    clear hr q hb hm hl
    induction p with
    | nil => rfl
    | cons t p ih => rw [List.filterMap_cons, Function.comp_apply, hF, List.map_cons, ih]
theorem w_is_number {i : Int} {S : Sto} {Q : D → Sto → Prop} (q : Q (.bl true) S) : WV (F__law_is_number [.int i, .int i] S) Q := by
  unfold F__law_is_number m__law_is_number
  refine wfn [some (.int i), some (.int i)] rfl ?_
  refine ws_ret (wv_andV (wv_call (wv_cons (v0 (wv_nil ?_)))))
  have e : WV (F__law_is_int [.int i] S) fun d S' => d = .bl true ∧ S' = S := by
    unfold F__law_is_int m__law_is_int
    refine wfn [some (.int i)] rfl ?_
    repeat infer_instance
    refine g_isi rfl kit3 ?_
    repeat infer_instance
    refine g_isi rfl kit4 ?_
    repeat infer_instance
    exact ⟨rfl, rfl⟩
  obtain ⟨d, S', e, rfl, rfl⟩ := e
  refine wv_of e ⟨_, rfl, fun _ => ?_, fun z => nomatch z⟩
  repeat infer_instance
  rw [decide_eq_true rfl]
  exact q
end Gn

namespace Gn
open PySem PySem.Spec PyProof.Rows L2 Rf
local macro_rules
  | `(tactic| infer_instance) => `(tactic| with_reducible first
    | apply ws_seq
    | apply ws_ret
    | apply ws_if
    | apply ws_ex
    | apply ws_asg
    | apply ws_par
    | apply ws_dput
    | apply ws_lput
    | apply ws_nil
    | apply ws_retN
    | apply s0
    | apply s1
    | apply s2
    | apply s3
    | apply s4
    | apply s5
    | apply s6
    | apply s7
    | apply s8
    | apply s9
    | apply s10
    | apply s11
    | apply s12
    | apply s13
    | apply s14
    | apply s15
    | apply s16
    | apply s17
    | apply s18
    | apply s19
    | apply s20
    | apply s21
    | apply s22
    | apply s23
    | apply s24
    | apply s25
    | apply wv_op
    | apply wv_un
    | apply wv_bi
    | apply wv_call
    | apply wv_call0
    | apply wv_tup
    | apply wv_lst
    | apply wv_cons
    | apply wv_nil
    | apply wv_T
    | apply wv_tru
    | apply wv_not
    | apply wv_and
    | apply wv_or
    | apply wv_if
    | apply wv_andV
    | apply wv_orV
    | apply wv_yes
    | apply wv_ret
    | apply wv_app
    | apply wv_dget
    | apply wv_dget2
    | apply wv_din
    | apply wv_dct1
    | apply wv_dct0
    | apply wv_sx2
    | apply wv_sxH
    | apply wv_sxL
    | apply exI
    | apply v0
    | apply v1
    | apply v2
    | apply v3
    | apply v4
    | apply v5
    | apply v6
    | apply v7
    | apply v8
    | apply v9
    | apply v10
    | apply v11
    | apply v12
    | apply v13
    | apply v14
    | apply v15
    | apply v16
    | apply v17
    | apply v18
    | apply v19
    | apply v20
    | apply v21
    | apply v22
    | apply v23
    | apply v24
    | apply v25
    | apply g_add
    | apply g_sub
    | apply g_iadd
    | apply g_isub
    | apply g_lt
    | apply g_le
    | apply g_gt
    | apply g_ge
    | apply g_eq
    | apply g_ne
    | apply g_neg
    | apply g_not
    | apply g_gcd
    | apply g_abs
    | apply g_int
    | apply g_intb
    | apply g_nq0
    | apply g_nq1
    | apply g_ix0
    | apply g_ix1
    | apply g_ix2
    | apply g_lenT
    | apply exT
    | apply exTru
    | apply ifT
    | apply ifF
    | apply ifT'
    | apply ifF'
    | apply nf1
    | apply nf2
    | apply nf3
    | apply nf4
    | apply len0
    | apply len1
    | apply len2
    | apply len3
    | apply len4
    )
/-! ### values -/
def tv (c : Rat) (e : List Int) (pt : List Rat) : Nat → Rat
  | 0 => c
  | j + 1 => tv c e pt j * (pt.getD j 0) ^ (e.getD j 0).toNat
def vs (n : Nat) (pt : List Rat) (I : Pol) : Rat := I.foldl (fun s t => s + tv t.2 t.1 pt n) 0
theorem vs_snoc {n : Nat} {pt : List Rat} {I : Pol} {t : List Int × Rat} : vs n pt (I ++ [t]) = vs n pt I + tv t.2 t.1 pt n := by unfold vs; rw [List.foldl_append]; rfl
def ptD (pt : List Rat) : D := .tup (pt.map nq)
structure PtOk (n : Nat) (pt : List Rat) : Prop where
  len : pt.length = n
  bq : ∀ q ∈ pt, BQ 12 9 q
theorem pow_dvd {a e f : Nat} (h : e ≤ f) : a ^ e ∣ a ^ f := Nat.pow_dvd_pow a h
theorem bq_pow4 {q : Rat} (h : BQ 12 9 q) {e : Nat} (he : e ≤ 4) : BQ 20736 6561 (q ^ e) :=
  ((bq_pow h e).monoL (pow_dvd (a := 12) he)).mono (Nat.pow_le_pow_right (by decide) he)
theorem getD_mem {pt : List Rat} {j : Nat} (h : j < pt.length) : pt.getD j 0 ∈ pt := by
  rw [List.getD_eq_getElem?_getD, List.getElem?_eq_getElem h]
  exact List.getElem_mem h
theorem tv_bq {c : Rat} (hc : BQ 12 1000 c) {e : List Int} {n : Nat} (he : EB n 5 e) {pt : List Rat} (hp : PtOk n pt) : ∀ j, j ≤ n → BQ (12 * 20736 ^ j) (1000 * 6561 ^ j) (tv c e pt j)
  | 0, _ => hc
  | j + 1, h => by
    have ih := tv_bq hc he hp j (by omega)
    have hj : j < e.length := by rw [he.1]; omega
    have b := he.2 (e.getD j 0) (by rw [List.getD_eq_getElem?_getD, List.getElem?_eq_getElem hj]; exact List.getElem_mem hj)
    have := bq_mul ih (bq_pow4 (hp.bq _ (getD_mem (j := j) (by rw [hp.len]; omega))) (e := (e.getD j 0).toNat) (by omega))
    rw [Nat.pow_succ, Nat.pow_succ, ← Nat.mul_assoc, ← Nat.mul_assoc]
    exact this
theorem fin_bd {n j : Nat} (h : j ≤ n) (hn : n ≤ 4) : 12 * 20736 ^ j ≤ 12 * 20736 ^ 4 ∧ 1000 * 6561 ^ j ≤ 1000 * 6561 ^ 4 := ⟨Nat.mul_le_mul_left _ (Nat.pow_le_pow_right (by decide) (by omega)), Nat.mul_le_mul_left _ (Nat.pow_le_pow_right (by decide) (by omega))⟩
theorem sz_of {L M : Nat} {q : Rat} (h : BQ L M q) (hL : 0 < L) (h1 : L ≤ 12 * 20736 ^ 4) (h2 : M ≤ 1000 * 6561 ^ 4) : sz 200 q := by
  refine bq_sz h hL (Nat.lt_of_le_of_lt h1 (by decide)) (Nat.lt_of_le_of_lt (Nat.mul_le_mul h2 h1) (by decide))
theorem getE {e : List Int} {n j : Nat} {B : Int} (he : EB n B e) (h : j < n) : e[j]? = some (e.getD j 0) ∧ 0 ≤ e.getD j 0 ∧ e.getD j 0 < B := by
  have hj : j < e.length := by rw [he.1]; exact h
  have e1 : e[j]? = some (e.getD j 0) := by rw [List.getD_eq_getElem?_getD, List.getElem?_eq_getElem hj]; rfl
  exact ⟨e1, he.2 _ (List.mem_of_getElem? e1)⟩
theorem getP {pt : List Rat} {n j : Nat} (hp : PtOk n pt) (h : j < n) : pt[j]? = some (pt.getD j 0) ∧ BQ 12 9 (pt.getD j 0) := by
  have hj : j < pt.length := by rw [hp.len]; exact h
  exact ⟨by rw [List.getD_eq_getElem?_getD, List.getElem?_eq_getElem hj]; rfl, hp.bq _ (getD_mem hj)⟩
theorem w_whole {a : Int} {k : Nat} (ha : szI 12 a) {S : Sto} {Q : D → Sto → Prop} (hk : k ≤ 100) (q : Q (.int (a ^ k)) S) : WV (F_whole_power [.int a, .int (k : Int)] S) Q :=
  wv_of (e_whole_power (n := 12) ha S (by decide) (by omega)) q
theorem w_law_power {q : Rat} {e : Nat} (h : BQ 12 9 q) {S : Sto} {Q : D → Sto → Prop} (he : e ≤ 4) (k : Q (nq (q ^ e)) S) : WV (F__law_power [nq q, .int (e : Int)] S) Q :=
  wv_of (e_law_power (n := 12) (k := e) (bq_sz h (by decide) (by decide) (by decide)) S (by decide) (by omega)) k
/-! ### derivatives -/
theorem keys_of_sub' {T U : Pol} (h : ∀ x ∈ T, x ∈ U) : ∀ e ∈ keysA T, e ∈ keysA U := fun e he => by
  obtain ⟨t, ht, rfl⟩ := List.mem_map.mp he
  exact List.mem_map.mpr ⟨t, h t ht, rfl⟩
def decE (k : Nat) (e : List Int) : List Int := e.set k (e.getD k 0 - 1)
def ofI (i : Int) : Rat := (i : Rat)
theorem nq_ofI (i : Int) : nq (ofI i) = .tup [.int i, .int 1] := rfl
def derF (k : Nat) (t : List Int × Rat) : Option (List Int × Rat) := if 0 < t.1.getD k 0 then some (decE k t.1, t.2 * ofI (t.1.getD k 0)) else none
def derP (k : Nat) (p : Pol) : Pol := p.filterMap (derF k)
theorem dec_eb {n k : Nat} {B : Int} {e : List Int} (he : EB n B e) (hk : k < n) (hpos : 0 < e.getD k 0) : EB n B (decE k e) := by
  obtain ⟨g1, g2, g3⟩ := getE he hk
  refine ⟨by unfold decE; rw [List.length_set, he.1], fun m hm => ?_⟩
  unfold decE at hm
  rcases List.mem_or_eq_of_mem_set hm with h | h
  · exact he.2 m h
  · subst h
    constructor <;> omega
theorem lex_dec : ∀ {k : Nat} {a b : List Int}, a.length = b.length → k < a.length → lexLt a b = true → lexLt (decE k a) (decE k b) = true
  | _, [], _, _, h, _ => by cases h
  | _, _ :: _, [], h, _, _ => by cases h
  | 0, x :: a, y :: b, _, _, h => by
    unfold Rf.lexLt at h
    show lexLt ((x - 1) :: a) ((y - 1) :: b) = true
    unfold Rf.lexLt
    rw [Bool.or_eq_true, Bool.and_eq_true] at h ⊢
    rcases h with h | ⟨h1, h2⟩
    · have := of_decide_eq_true h
      exact .inl (decide_eq_true (by omega))
    · have := of_decide_eq_true h1
      exact .inr ⟨decide_eq_true (by omega), h2⟩
  | k + 1, x :: a, y :: b, hl, hk, h => by
    unfold Rf.lexLt at h
    show lexLt (x :: decE k a) (y :: decE k b) = true
    unfold Rf.lexLt
    rw [Bool.or_eq_true, Bool.and_eq_true] at h ⊢
    rcases h with h | ⟨h1, h2⟩
    · exact .inl h
    · exact .inr ⟨h1, lex_dec (by simpa using hl) (by simpa using hk) h2⟩
theorem bq_ofI {i : Int} (h0 : 0 ≤ i) (h : i ≤ 4) : BQ 1 4 (ofI i) := by
  have e : qp (ofI i) = (i, 1) := rfl
  show BP 1 4 (qp (ofI i))
  rw [e]
  exact ⟨by show (0 : Int) < 1; decide, Int.one_dvd _, by show i.natAbs ≤ 4 * 1; omega⟩
theorem der_mem {k : Nat} {p : Pol} {u : List Int × Rat} (h : u ∈ derP k p) : ∃ t ∈ p, 0 < t.1.getD k 0 ∧ u = (decE k t.1, t.2 * ofI (t.1.getD k 0)) := by
  obtain ⟨t, ht, hu⟩ := List.mem_filterMap.mp h
  unfold derF at hu
  split at hu
  · rename_i c
    cases hu
    exact ⟨t, ht, c, rfl⟩
  · cases hu
theorem der_wf {n k : Nat} {p : Pol} (hp : QB n 5 12 54 6 p) (hk : k < n) : WF n (derP k p) where
  srt := by
    have h := hp.pb.wf.srt
    unfold keysA at h ⊢
    rw [List.pairwise_map] at h ⊢
    unfold derP
    rw [List.pairwise_filterMap]
    refine List.Pairwise.imp_of_mem (fun {a b} ha hb hab u hu v hv => ?_) h
    unfold derF at hu hv
    split at hu
    · split at hv
      · cases hu
        cases hv
        have e1 := hp.pk _ (List.mem_map.mpr ⟨a, ha, rfl⟩)
        have e2 := hp.pk _ (List.mem_map.mpr ⟨b, hb, rfl⟩)
        exact lex_dec (e1.1.trans e2.1.symm) (by rw [e1.1]; exact hk) hab
      · cases hv
    · cases hu
  ok := fun e he => by
    obtain ⟨u, hu, rfl⟩ := List.mem_map.mp he
    obtain ⟨t, ht, hpos, rfl⟩ := der_mem hu
    have := dec_eb (hp.pk _ (List.mem_map.mpr ⟨t, ht, rfl⟩)) hk hpos
    exact ⟨this.1, fun m hm => by have := this.2 m hm; constructor <;> omega⟩
  nz := fun u hu => by
    obtain ⟨t, ht, hpos, rfl⟩ := der_mem hu
    intro z
    rcases Rat.mul_eq_zero.mp z with z | z
    · exact hp.pb.wf.nz t ht z
    · have : (t.1.getD k 0 : Int) = 0 := by
        have := congrArg Rat.num z
        exact this
      omega
theorem der_bt {n k : Nat} {p : Pol} (hp : QB n 5 12 54 6 p) (hk : k < n) : BT 12 216 (derP k p) := fun u hu => by
  obtain ⟨t, ht, hpos, rfl⟩ := der_mem hu
  obtain ⟨_, g0, g5⟩ := getE (hp.pk _ (List.mem_map.mpr ⟨t, ht, rfl⟩)) hk
  exact bq_mul (hp.pb.bd t ht) (bq_ofI g0 (by omega))
theorem der_kok {n k : Nat} {p : Pol} (hp : QB n 5 12 54 6 p) (hk : k < n) : KOk n (keysA (derP k p)) := (der_wf hp hk).ok
theorem der_sum {n k : Nat} {p : Pol} (hp : QB n 5 12 54 6 p) (hk : k < n) : sumP (derP k p) = derP k p :=
  (sumP_eq (der_kok hp hk) (der_bt hp hk) (der_wf hp hk) fun a => (sumAt_co (der_wf hp hk).nodup a).symm).symm
theorem der_len {k : Nat} {p : Pol} : (derP k p).length ≤ p.length := List.length_filterMap_le _ _
theorem take_drop_set {xs : List Int} {k : Nat} {v : Int} (h : k < xs.length) : xs.take k ++ [v] ++ xs.drop (k + 1) = xs.set k v := by
  rw [List.set_eq_take_append_cons_drop, if_pos h, List.append_assoc, List.singleton_append]
/-- e[:k] + (v,) + e[k + 1:] -/
theorem set_D {xs : List Int} {k : Nat} {v : Int} (h : k < xs.length) : List.take k (xs.map D.int) ++ [D.int v] ++ List.drop (k + 1) (xs.map D.int) = (xs.set k v).map D.int := by
  rw [← take_drop_set h, List.map_append, List.map_append, List.map_take, List.map_drop]; rfl
theorem w_with {xs : List Int} {k : Nat} {v : Int} {S : Sto} {Q : D → Sto → Prop} (h : k < xs.length) (hl : xs.length < 1000) (q : Q (tupI (xs.set k v)) S) : WV (F__with_exponent [tupI xs, .int (k : Int), .int v] S) Q := by
  unfold F__with_exponent m__with_exponent
  refine wfn [some (tupI xs), some (.int (k : Int)), some (.int v)] rfl ?_
  repeat infer_instance
  refine g_slT ?_
  rw [cut_take]
  repeat infer_instance
  refine g_catT (by rw [List.length_take, List.length_map]; show min k xs.length + 1 ≤ 1000000; omega) ?_
  repeat infer_instance
  refine g_slT ?_
  rw [show (k : Int) + 1 = ((k + 1 : Nat) : Int) by omega, cut_drop]
  refine g_catT (by rw [List.length_append, List.length_take, List.length_drop, List.length_map]; show min k xs.length + 1 + _ ≤ 1000000; omega) ?_
  rw [set_D h]
  exact q
end Gn

namespace Gn
open PySem PySem.Spec PyProof.Rows L2 Rf
local macro_rules
  | `(tactic| infer_instance) => `(tactic| with_reducible first
    | apply ws_seq
    | apply ws_ret
    | apply ws_if
    | apply ws_ex
    | apply ws_asg
    | apply ws_par
    | apply ws_dput
    | apply ws_lput
    | apply ws_nil
    | apply ws_retN
    | apply s0
    | apply s1
    | apply s2
    | apply s3
    | apply s4
    | apply s5
    | apply s6
    | apply s7
    | apply s8
    | apply s9
    | apply s10
    | apply s11
    | apply s12
    | apply s13
    | apply s14
    | apply s15
    | apply s16
    | apply s17
    | apply s18
    | apply s19
    | apply s20
    | apply s21
    | apply s22
    | apply s23
    | apply s24
    | apply s25
    | apply wv_op
    | apply wv_un
    | apply wv_bi
    | apply wv_call
    | apply wv_call0
    | apply wv_tup
    | apply wv_lst
    | apply wv_cons
    | apply wv_nil
    | apply wv_T
    | apply wv_tru
    | apply wv_not
    | apply wv_and
    | apply wv_or
    | apply wv_if
    | apply wv_andV
    | apply wv_orV
    | apply wv_yes
    | apply wv_ret
    | apply wv_app
    | apply wv_dget
    | apply wv_dget2
    | apply wv_din
    | apply wv_dct1
    | apply wv_dct0
    | apply wv_sx2
    | apply wv_sxH
    | apply wv_sxL
    | apply exI
    | apply v0
    | apply v1
    | apply v2
    | apply v3
    | apply v4
    | apply v5
    | apply v6
    | apply v7
    | apply v8
    | apply v9
    | apply v10
    | apply v11
    | apply v12
    | apply v13
    | apply v14
    | apply v15
    | apply v16
    | apply v17
    | apply v18
    | apply v19
    | apply v20
    | apply v21
    | apply v22
    | apply v23
    | apply v24
    | apply v25
    | apply g_add
    | apply g_sub
    | apply g_iadd
    | apply g_isub
    | apply g_lt
    | apply g_le
    | apply g_gt
    | apply g_ge
    | apply g_eq
    | apply g_ne
    | apply g_neg
    | apply g_not
    | apply g_gcd
    | apply g_abs
    | apply g_int
    | apply g_intb
    | apply g_nq0
    | apply g_nq1
    | apply g_ix0
    | apply g_ix1
    | apply g_ix2
    | apply g_lenT
    | apply exT
    | apply exTru
    | apply ifT
    | apply ifF
    | apply ifT'
    | apply ifF'
    | apply nf1
    | apply nf2
    | apply nf3
    | apply nf4
    | apply len0
    | apply len1
    | apply len2
    | apply len3
    | apply len4
    )
/-! ### lists of whole numbers of a polynomial in one variable -/
def wq (b : Int) (x : Rat) : Int := x.num * (b.fdiv (x.den : Int))
def bel (p : Pol) : Nat := p.foldl (fun b t => Nat.lcm b t.2.den) 1
def uco (p : Pol) (i : Nat) : Rat := co p [(i : Int)]
def rowW (p : Pol) (b : Int) (N : Nat) : List Int := (List.range N).map fun i => wq b (uco p i)
def expo (t : List Int × Rat) : Nat := (t.1.getD 0 0).toNat
def topN (p : Pol) : Nat := match p.getLast? with
  | some t => expo t + 1
  | none => 0
theorem rowW_len {p : Pol} {b : Int} {N : Nat} : (rowW p b N).length = N := by unfold rowW; rw [List.length_map, List.length_range]
theorem foldl_lcm_dvd {L : Nat} : ∀ (p : Pol) (b : Nat), b ∣ L → (∀ t ∈ p, t.2.den ∣ L) → p.foldl (fun b t => Nat.lcm b t.2.den) b ∣ L
  | [], _, h, _ => h
  | t :: p, b, h, hp => by
    rw [List.foldl_cons]
    exact foldl_lcm_dvd p _ (Nat.lcm_dvd h (hp t List.mem_cons_self)) fun u hu => hp u (List.mem_cons_of_mem _ hu)
theorem bel_dvd {L : Nat} {p : Pol} (h : ∀ t ∈ p, t.2.den ∣ L) : bel p ∣ L := foldl_lcm_dvd p 1 (Nat.one_dvd L) h
theorem foldl_lcm_ge : ∀ (p : Pol) (b : Nat), b ∣ p.foldl (fun b t => Nat.lcm b t.2.den) b ∧ ∀ t ∈ p, t.2.den ∣ p.foldl (fun b t => Nat.lcm b t.2.den) b
  | [], b => ⟨Nat.dvd_refl b, fun _ h => absurd h (by simp)⟩
  | t :: p, b => by
    rw [List.foldl_cons]
    obtain ⟨h1, h2⟩ := foldl_lcm_ge p (Nat.lcm b t.2.den)
    refine ⟨Nat.dvd_trans (Nat.dvd_lcm_left _ _) h1, fun u hu => ?_⟩
    rcases List.mem_cons.mp hu with rfl | hu
    · exact Nat.dvd_trans (Nat.dvd_lcm_right _ _) h1
    · exact h2 u hu
theorem den_bel {p : Pol} {t : List Int × Rat} (h : t ∈ p) : t.2.den ∣ bel p := (foldl_lcm_ge p 1).2 t h
theorem bel_pos {p : Pol} : 0 < bel p := by
  have : ∀ (p : Pol) (b : Nat), 0 < b → 0 < p.foldl (fun b t => Nat.lcm b t.2.den) b := by
    intro p
    induction p with
    | nil => intro b h; exact h
    | cons t p ih =>
      intro b h
      rw [List.foldl_cons]
      exact ih _ (Nat.lcm_pos h t.2.den_pos)
  exact this p 1 (by decide)
theorem bel_snoc {I : Pol} {t : List Int × Rat} : bel (I ++ [t]) = Nat.lcm (bel I) t.2.den := by unfold bel; rw [List.foldl_append]; rfl
theorem key1 {B : Int} {p : Pol} (hp : PK 1 B p) {t : List Int × Rat} (ht : t ∈ p) : t.1 = [(expo t : Int)] ∧ (expo t : Int) < B := by
  obtain ⟨h1, h2⟩ := hp t.1 (List.mem_map.mpr ⟨t, ht, rfl⟩)
  unfold expo
  match e : t.1, h1 with
  | [a], _ =>
    have := h2 a (by rw [e]; exact List.mem_singleton.mpr rfl)
    refine ⟨?_, ?_⟩
    · show [a] = [((a.toNat : Nat) : Int)]
      rw [Int.toNat_of_nonneg this.1]
    · show ((a.toNat : Nat) : Int) < B
      omega
theorem lexLt1 {a b : Int} : Rf.lexLt [a] [b] = decide (a < b) := by
  show (decide (a < b) || (decide (a = b) && Rf.lexLt [] [])) = _
  rw [show Rf.lexLt [] [] = false from rfl, Bool.and_false, Bool.or_false]
theorem expo_lt {B : Int} {p : Pol} (hw : WF 1 p) (hp : PK 1 B p) {t : List Int × Rat} (ht : t ∈ p) : expo t < topN p := by
  unfold topN
  cases e : p.getLast? with
  | none => rw [List.getLast?_eq_none_iff] at e; subst e; cases ht
  | some u =>
    obtain ⟨I, rfl⟩ := List.getLast?_eq_some_iff.mp e
    show expo t < expo u + 1
    rcases List.mem_append.mp ht with h | h
    · have s := hw.srt
      unfold keysA at s
      rw [List.map_append, List.pairwise_append] at s
      have := s.2.2 t.1 (List.mem_map.mpr ⟨t, h, rfl⟩) u.1 (by simp)
      rw [(key1 hp ht).1, (key1 hp (t := u) (by simp)).1, lexLt1] at this
      have := of_decide_eq_true this
      omega
    · rw [List.mem_singleton] at h
      subst h
      omega
theorem co_snoc {I : Pol} {t : List Int × Rat} (h : t.1 ∉ keysA I) (e : List Int) : co (I ++ [t]) e = if t.1 = e then t.2 else co I e := by
  unfold co
  rw [lookA_append, lookA_cons, lookA_nil]
  by_cases c : t.1 = e
  · subst c
    rw [lookA_none.mpr h, if_pos rfl, if_pos rfl]; rfl
  · rw [if_neg c, if_neg c, Option.or_none]
theorem rowW_get {p : Pol} {b : Int} {N i : Nat} (h : i < (rowW p b N).length) : (rowW p b N)[i] = wq b (uco p i) := by
  have : ∀ (l : List Int) (e : l = (List.range N).map fun i => wq b (uco p i)) (h : i < l.length), l[i] = wq b (uco p i) := by
    intro l e h
    subst e
    rw [List.getElem_map, List.getElem_range]
  exact this _ rfl h
theorem rowW_snoc {I : Pol} {t : List Int × Rat} {b : Int} {N : Nat} (h : t.1 ∉ keysA I) (hk : t.1 = [(expo t : Int)]) (hN : expo t < N) : (rowW I b N).set (expo t) (wq b t.2) = rowW (I ++ [t]) b N := by
  apply List.ext_getElem
  · rw [List.length_set, rowW_len, rowW_len]
  · intro i h1 h2
    rw [List.getElem_set, rowW_get h2, rowW_get (by rw [List.length_set] at h1; exact h1)]
    unfold uco
    rw [co_snoc h]
    by_cases c : expo t = i
    · rw [if_pos c, if_pos (by rw [hk, c])]
    · rw [if_neg c, if_neg (by rw [hk]; intro z; cases z; exact c rfl)]
theorem rowW_nil {b : Int} {N : Nat} : rowW [] b N = List.replicate N 0 := by
  unfold rowW
  rw [List.eq_replicate_iff]
  refine ⟨by rw [List.length_map, List.length_range], fun x hx => ?_⟩
  obtain ⟨i, _, rfl⟩ := List.mem_map.mp hx
  show (0 : Rat).num * _ = 0
  exact Int.zero_mul _
theorem g_repL0 {n : Nat} {x : D} {i : Nat} {S : Sto} (hs : S[i]? = some (.lst [x])) {Q : D → Sto → Prop} (hn : n ≤ 1000) (q : Q (.ref S.length) (S ++ [.lst (List.replicate n x)])) : WG (gRepL (.ref i) (.int (n : Int)) S) Q := ⟨_, _, by
  unfold gRepL
  dsimp only
  rw [hs]
  dsimp only
  rw [if_pos ⟨by omega, by omega, by show 1 ≤ 1000; decide⟩, Int.toNat_natCast]
  have : (List.replicate n [x]).flatten = List.replicate n x := by
    clear hs q hn
    induction n with
    | zero => rfl
    | succ n ih => rw [List.replicate_succ, List.flatten_cons, ih, List.replicate_succ]; rfl
  rw [this], q⟩
theorem nodup_take {p : Pol} (h : (keysA p).Nodup) {j : Nat} {t : List Int × Rat} (e : p[j]? = some t) : t.1 ∉ keysA (p.take j) := by
  have hj := get_lt e
  have e1 : (keysA p) = keysA (p.take j) ++ t.1 :: keysA (p.drop (j + 1)) := by
    unfold keysA
    have : p = p.take j ++ t :: p.drop (j + 1) := by
      have e2 : p[j] = t := by rw [List.getElem?_eq_getElem hj] at e; exact Option.some.inj e
      rw [← e2, ← List.drop_eq_getElem_cons hj, List.take_append_drop]
    conv => lhs; rw [this]
    rw [List.map_append, List.map_cons]
  rw [e1, List.nodup_append] at h
  intro hm
  exact h.2.2 t.1 hm t.1 List.mem_cons_self rfl
theorem atI_last {α : Type} {xs : List α} {x : α} (h : xs.getLast? = some x) : atI xs (-1) = some x := by
  obtain ⟨I, rfl⟩ := List.getLast?_eq_some_iff.mp h
  unfold atI ixN
  rw [if_neg (by decide), if_pos (by rw [List.length_append, List.length_singleton]; omega), Option.bind_some]
  have : ((-1 : Int) + ((I ++ [x]).length : Int)).toNat = I.length := by rw [List.length_append, List.length_singleton]; omega
  rw [this, List.getElem?_append_right (Nat.le_refl _), Nat.sub_self]; rfl
theorem g_ixLast {xs : List D} {x : D} (h : xs.getLast? = some x) {S : Sto} {Q : D → Sto → Prop} (q : Q x S) : WG (gIx (.tup xs) (.int (-1)) S) Q := ⟨_, _, by
  unfold gIx
  show ((some xs).bind fun xs => (atI xs (-1)).map fun d => (d, S)) = _
  rw [Option.bind_some, atI_last h]; rfl, q⟩
theorem g_ixLastR {id : Nat} {xs : List D} {x : D} {S : Sto} (hs : S[id]? = some (.lst xs)) (h : xs.getLast? = some x) {Q : D → Sto → Prop} (q : Q x S) : WG (gIx (.ref id) (.int (-1)) S) Q := ⟨_, _, by
  unfold gIx
  show ((itemsOf S (.ref id)).bind fun xs => (atI xs (-1)).map fun d => (d, S)) = _
  rw [show itemsOf S (.ref id) = some xs from by unfold itemsOf; dsimp only; rw [hs], Option.bind_some, atI_last h]; rfl, q⟩
theorem cut_init {xs : List D} (h : xs ≠ []) : Rf.cutD xs none (some (-1)) = xs.dropLast := by
  unfold Rf.cutD
  have hl : 0 < xs.length := List.length_pos_iff.mpr h
  have e1 : HT.sIx xs.length xs.length (some (-1)) = xs.length - 1 := by
    show (if (-1 : Int) < 0 then ((-1 : Int) + (xs.length : Int)).toNat else min (-1 : Int).toNat xs.length) = _
    rw [if_pos (show (-1 : Int) < 0 by decide)]
    omega
  rw [HT.sIx_none, e1, List.drop_zero, Nat.sub_zero, List.dropLast_eq_take]
end Gn

namespace Gn
open PySem PySem.Spec PyProof.Rows L2 Rf
local macro_rules
  | `(tactic| infer_instance) => `(tactic| with_reducible first
    | apply ws_seq
    | apply ws_ret
    | apply ws_if
    | apply ws_ex
    | apply ws_asg
    | apply ws_par
    | apply ws_dput
    | apply ws_lput
    | apply ws_nil
    | apply ws_retN
    | apply s0
    | apply s1
    | apply s2
    | apply s3
    | apply s4
    | apply s5
    | apply s6
    | apply s7
    | apply s8
    | apply s9
    | apply s10
    | apply s11
    | apply s12
    | apply s13
    | apply s14
    | apply s15
    | apply s16
    | apply s17
    | apply s18
    | apply s19
    | apply s20
    | apply s21
    | apply s22
    | apply s23
    | apply s24
    | apply s25
    | apply wv_op
    | apply wv_un
    | apply wv_bi
    | apply wv_call
    | apply wv_call0
    | apply wv_tup
    | apply wv_lst
    | apply wv_cons
    | apply wv_nil
    | apply wv_T
    | apply wv_tru
    | apply wv_not
    | apply wv_and
    | apply wv_or
    | apply wv_if
    | apply wv_andV
    | apply wv_orV
    | apply wv_yes
    | apply wv_ret
    | apply wv_app
    | apply wv_dget
    | apply wv_dget2
    | apply wv_din
    | apply wv_dct1
    | apply wv_dct0
    | apply wv_sx2
    | apply wv_sxH
    | apply wv_sxL
    | apply exI
    | apply v0
    | apply v1
    | apply v2
    | apply v3
    | apply v4
    | apply v5
    | apply v6
    | apply v7
    | apply v8
    | apply v9
    | apply v10
    | apply v11
    | apply v12
    | apply v13
    | apply v14
    | apply v15
    | apply v16
    | apply v17
    | apply v18
    | apply v19
    | apply v20
    | apply v21
    | apply v22
    | apply v23
    | apply v24
    | apply v25
    | apply g_add
    | apply g_sub
    | apply g_iadd
    | apply g_isub
    | apply g_lt
    | apply g_le
    | apply g_gt
    | apply g_ge
    | apply g_eq
    | apply g_ne
    | apply g_neg
    | apply g_not
    | apply g_gcd
    | apply g_abs
    | apply g_int
    | apply g_intb
    | apply g_nq0
    | apply g_nq1
    | apply g_ix0
    | apply g_ix1
    | apply g_ix2
    | apply g_lenT
    | apply exT
    | apply exTru
    | apply ifT
    | apply ifF
    | apply ifT'
    | apply ifF'
    | apply nf1
    | apply nf2
    | apply nf3
    | apply nf4
    | apply len0
    | apply len1
    | apply len2
    | apply len3
    | apply len4
    )
/-! ### rows, by what stands at each place -/
def rowG (n : Nat) (g : Nat → D) : List D := (List.range n).map g
theorem rowG_len {n : Nat} {g : Nat → D} : (rowG n g).length = n := by unfold rowG; rw [List.length_map, List.length_range]
theorem rowG_at {n : Nat} {g : Nat → D} (i : Nat) : (rowG n g)[i]? = if i < n then some (g i) else none := by
  unfold rowG
  rw [List.getElem?_map]
  split
  · rename_i h; rw [List.getElem?_range h]; rfl
  · rename_i h; rw [List.getElem?_eq_none (by rw [List.length_range]; omega)]; rfl
theorem rowG_get {n : Nat} {g : Nat → D} {i : Nat} (h : i < n) : (rowG n g)[i]? = some (g i) := by rw [rowG_at, if_pos h]
theorem rowG_congr {n : Nat} {g g' : Nat → D} (h : ∀ i, i < n → g i = g' i) : rowG n g = rowG n g' := List.map_congr_left fun i hi => h i (List.mem_range.mp hi)
theorem rowG_set {n : Nat} {g : Nat → D} {j : Nat} {d : D} : (rowG n g).set j d = rowG n fun i => if i = j then d else g i := by
  apply List.ext_getElem?
  intro i
  rw [List.getElem?_set, rowG_at, rowG_at, rowG_len]
  by_cases c : i = j
  · subst c
    rw [if_pos rfl, if_pos rfl]
  · rw [if_neg (fun z => c z.symm), if_neg c]
theorem rowG_drop {n : Nat} {g : Nat → D} : (rowG (n + 1) g).dropLast = rowG n g := by
  unfold rowG
  rw [List.range_succ, List.map_append, List.map_cons, List.map_nil, List.dropLast_concat]
theorem rowG_last {n : Nat} {g : Nat → D} : (rowG (n + 1) g).getLast? = some (g n) := by
  unfold rowG
  rw [List.range_succ, List.map_append, List.map_cons, List.map_nil, List.getLast?_concat]
theorem rowG_rep {n : Nat} {d : D} : List.replicate n d = rowG n fun _ => d := by
  apply List.ext_getElem?
  intro i
  rw [List.getElem?_replicate, rowG_at]
theorem rowG_app {n m : Nat} {g g' : Nat → D} : rowG n g ++ rowG m g' = rowG (n + m) fun i => if i < n then g i else g' (i - n) := by
  apply List.ext_getElem?
  intro i
  rw [rowG_at, List.getElem?_append, rowG_len]
  by_cases c : i < n
  · rw [if_pos c, if_pos (by omega), if_pos c, rowG_get c]
  · rw [if_neg c, rowG_at, if_neg c]
    by_cases c2 : i < n + m
    · rw [if_pos c2, if_pos (by omega)]
    · rw [if_neg c2, if_neg (by omega)]
theorem rowG_one {d : D} : [d] = rowG 1 fun _ => d := rfl
theorem rowG_zero {g : Nat → D} : rowG 0 g = [] := rfl
theorem rowG_map {n : Nat} {g : Nat → D} {f : D → D} : (rowG n g).map f = rowG n fun i => f (g i) := by unfold rowG; rw [List.map_map]; rfl
theorem rowG_cut {n m : Nat} {g : Nat → D} (h : m ≤ n) : Rf.cutD (rowG n g) none (some (m : Int)) = rowG m g := by
  unfold Rf.cutD
  have e : HT.sIx (rowG n g).length (rowG n g).length (some (m : Int)) = m := by
    unfold HT.sIx
    dsimp only
    rw [rowG_len, if_neg (by omega)]
    omega
  rw [HT.sIx_none, e, List.drop_zero, Nat.sub_zero]
  apply List.ext_getElem?
  intro i
  rw [List.getElem?_take, rowG_at, rowG_at]
  by_cases c : i < m
  · rw [if_pos c, if_pos (by omega), if_pos c]
  · rw [if_neg c, if_neg c]
/-! ### the polynomial of a row -/
def spOne (h : Nat → Rat) (i : Nat) : Option (List Int × Rat) := if h i = 0 then none else some ([(i : Int)], h i)
def spP (n : Nat) (h : Nat → Rat) : Pol := (List.range n).filterMap (spOne h)
theorem spP_succ {n : Nat} {h : Nat → Rat} : spP (n + 1) h = spP n h ++ (if h n = 0 then [] else [([(n : Int)], h n)]) := by
  unfold spP
  rw [List.range_succ, List.filterMap_append, List.filterMap_cons, List.filterMap_nil]
  unfold spOne
  split <;> rename_i e
  · split at e
    · rename_i z; rw [if_pos z]
    · cases e
  · split at e
    · cases e
    · rename_i z; cases e; rw [if_neg z]
theorem mem_spP {n : Nat} {h : Nat → Rat} {t : List Int × Rat} : t ∈ spP n h ↔ ∃ i, i < n ∧ h i ≠ 0 ∧ t = ([(i : Int)], h i) := by
  unfold spP
  rw [List.mem_filterMap]
  constructor
  · rintro ⟨i, hi, e⟩
    unfold spOne at e
    split at e
    · cases e
    · rename_i z
      cases e
      exact ⟨i, List.mem_range.mp hi, z, rfl⟩
  · rintro ⟨i, hi, z, rfl⟩
    refine ⟨i, List.mem_range.mpr hi, ?_⟩
    unfold spOne
    rw [if_neg z]
theorem spP_len {n : Nat} {h : Nat → Rat} : (spP n h).length ≤ n := by
  unfold spP
  have := List.length_filterMap_le (spOne h) (List.range n)
  rw [List.length_range] at this
  exact this
theorem fm_congr {α β : Type} {f g : α → Option β} : ∀ {l : List α}, (∀ i ∈ l, f i = g i) → l.filterMap f = l.filterMap g
  | [], _ => rfl
  | a :: l, h => by rw [List.filterMap_cons, List.filterMap_cons, h a List.mem_cons_self, fm_congr fun i hi => h i (List.mem_cons_of_mem _ hi)]
theorem spP_ext {n m : Nat} {h h' : Nat → Rat} (hm : m ≤ n) (e : ∀ i, i < m → h i = h' i) (z : ∀ i, m ≤ i → i < n → h i = 0) : spP n h = spP m h' := by
  induction n with
  | zero =>
    obtain rfl : m = 0 := by omega
    rfl
  | succ n ih =>
    by_cases c : m = n + 1
    · subst c
      unfold spP
      refine fm_congr fun i hi => ?_
      unfold spOne
      rw [e i (List.mem_range.mp hi)]
    · rw [spP_succ, if_pos (z n (by omega) (by omega)), List.append_nil]
      exact ih (by omega) fun i h1 h2 => z i h1 (by omega)
theorem sp_keys {n : Nat} {h : Nat → Rat} {e : List Int} (he : e ∈ keysA (spP n h)) : ∃ i : Nat, i < n ∧ e = [(i : Int)] := by
  obtain ⟨t, ht, rfl⟩ := List.mem_map.mp he
  obtain ⟨i, hi, _, rfl⟩ := mem_spP.mp ht
  exact ⟨i, hi, rfl⟩
theorem sp_wf {n : Nat} {h : Nat → Rat} (hn : n ≤ 1000) : WF 1 (spP n h) where
  srt := by
    clear hn
    induction n with
    | zero => exact List.Pairwise.nil
    | succ n ih =>
      rw [spP_succ, keys_app]
      split
      · rw [show keysA ([] : Pol) = [] from rfl, List.append_nil]; exact ih
      · rw [List.pairwise_append]
        refine ⟨ih, by simp [keysA], fun a ha b hb => ?_⟩
        obtain ⟨i, hi, rfl⟩ := sp_keys ha
        have : b = [(n : Int)] := by simpa [keysA] using hb
        subst this
        rw [lexLt1]
        exact decide_eq_true (by omega)
  ok := fun e he => by
    obtain ⟨i, hi, rfl⟩ := sp_keys he
    refine ⟨rfl, fun m hm => ?_⟩
    rw [List.mem_singleton] at hm
    subst hm
    omega
  nz := fun t ht => by
    obtain ⟨i, _, hz, rfl⟩ := mem_spP.mp ht
    exact hz
theorem sp_qb {n : Nat} {h : Nat → Rat} {L M : Nat} (hn : n ≤ 1000) (hb : ∀ i, i < n → BQ L M (h i)) : QB 1 (n : Int) L M n (spP n h) := ⟨⟨sp_wf hn, fun t ht => by
    obtain ⟨i, hi, _, rfl⟩ := mem_spP.mp ht
    exact hb i hi⟩, fun e he => by
    obtain ⟨i, hi, rfl⟩ := sp_keys he
    refine ⟨rfl, fun m hm => ?_⟩
    rw [List.mem_singleton] at hm
    subst hm
    omega, spP_len⟩
theorem sp_co {n : Nat} {h : Nat → Rat} (i : Nat) : uco (spP n h) i = if i < n then h i else 0 := by
  unfold uco
  induction n with
  | zero => rfl
  | succ n ih =>
    rw [spP_succ]
    split
    · rename_i z
      rw [List.append_nil, ih]
      by_cases c : i < n
      · rw [if_pos c, if_pos (by omega)]
      · rw [if_neg c]
        by_cases c2 : i < n + 1
        · rw [if_pos c2, show i = n by omega, z]
        · rw [if_neg c2]
    · rename_i z
      have hk : ([(n : Int)], h n).1 ∉ keysA (spP n h) := fun he => by
        obtain ⟨j, hj, e⟩ := sp_keys he
        have := List.singleton_inj.mp e
        omega
      rw [co_snoc hk, ih]
      by_cases c : i = n
      · subst c
        rw [if_pos rfl, if_pos (by omega)]
      · rw [if_neg (fun e => c (by have := List.singleton_inj.mp e; omega))]
        by_cases c1 : i < n
        · rw [if_pos c1, if_pos (by omega)]
        · rw [if_neg c1, if_neg (by omega)]
theorem sp_top {n : Nat} {h : Nat → Rat} (hz : n = 0 ∨ h (n - 1) ≠ 0) : topN (spP n h) = n := by
  cases n with
  | zero => rfl
  | succ n =>
    have hz : h n ≠ 0 := hz.resolve_left (by omega)
    unfold topN
    rw [spP_succ, if_neg hz, List.getLast?_concat]
    rfl
theorem sp_row {n : Nat} {h : Nat → Rat} {b : Int} (hz : n = 0 ∨ h (n - 1) ≠ 0) : (rowW (spP n h) b (topN (spP n h))).map D.int = rowG n fun i => .int (wq b (h i)) := by
  rw [sp_top hz]
  unfold rowW rowG
  rw [List.map_map]
  apply List.map_congr_left
  intro i hi
  show D.int (wq b (uco (spP n h) i)) = _
  rw [sp_co, if_pos (List.mem_range.mp hi)]
theorem sp_nil {n : Nat} {h : Nat → Rat} (hz : n = 0 ∨ h (n - 1) ≠ 0) : spP n h = [] ↔ n = 0 := by
  constructor
  · intro e
    have := sp_top hz
    rw [e] at this
    exact this.symm
  · rintro rfl; rfl
end Gn

namespace Gn
open PySem PySem.Spec PyProof.Rows L2 Rf
local macro_rules
  | `(tactic| infer_instance) => `(tactic| with_reducible first
    | apply ws_seq
    | apply ws_ret
    | apply ws_if
    | apply ws_ex
    | apply ws_asg
    | apply ws_par
    | apply ws_dput
    | apply ws_lput
    | apply ws_nil
    | apply ws_retN
    | apply s0
    | apply s1
    | apply s2
    | apply s3
    | apply s4
    | apply s5
    | apply s6
    | apply s7
    | apply s8
    | apply s9
    | apply s10
    | apply s11
    | apply s12
    | apply s13
    | apply s14
    | apply s15
    | apply s16
    | apply s17
    | apply s18
    | apply s19
    | apply s20
    | apply s21
    | apply s22
    | apply s23
    | apply s24
    | apply s25
    | apply wv_op
    | apply wv_un
    | apply wv_bi
    | apply wv_call
    | apply wv_call0
    | apply wv_tup
    | apply wv_lst
    | apply wv_cons
    | apply wv_nil
    | apply wv_T
    | apply wv_tru
    | apply wv_not
    | apply wv_and
    | apply wv_or
    | apply wv_if
    | apply wv_andV
    | apply wv_orV
    | apply wv_yes
    | apply wv_ret
    | apply wv_app
    | apply wv_dget
    | apply wv_dget2
    | apply wv_din
    | apply wv_dct1
    | apply wv_dct0
    | apply wv_sx2
    | apply wv_sxH
    | apply wv_sxL
    | apply exI
    | apply v0
    | apply v1
    | apply v2
    | apply v3
    | apply v4
    | apply v5
    | apply v6
    | apply v7
    | apply v8
    | apply v9
    | apply v10
    | apply v11
    | apply v12
    | apply v13
    | apply v14
    | apply v15
    | apply v16
    | apply v17
    | apply v18
    | apply v19
    | apply v20
    | apply v21
    | apply v22
    | apply v23
    | apply v24
    | apply v25
    | apply g_add
    | apply g_sub
    | apply g_iadd
    | apply g_isub
    | apply g_lt
    | apply g_le
    | apply g_gt
    | apply g_ge
    | apply g_eq
    | apply g_ne
    | apply g_neg
    | apply g_not
    | apply g_gcd
    | apply g_abs
    | apply g_int
    | apply g_intb
    | apply g_nq0
    | apply g_nq1
    | apply g_ix0
    | apply g_ix1
    | apply g_ix2
    | apply g_lenT
    | apply exT
    | apply exTru
    | apply ifT
    | apply ifF
    | apply ifT'
    | apply ifF'
    | apply nf1
    | apply nf2
    | apply nf3
    | apply nf4
    | apply len0
    | apply len1
    | apply len2
    | apply len3
    | apply len4
    )
/-! ### dense and sparse rows of the law -/
abbrev rowQ (n : Nat) (h : Nat → Rat) : List D := rowG n fun i => nq (h i)
/-- what is known of a row -/
structure RB (L M N n : Nat) (h : Nat → Rat) : Prop where
  le : n ≤ N
  end_ : n = 0 ∨ h (n - 1) ≠ 0
  bd : ∀ i, i < n → BQ L M (h i)
theorem nq01 : D.tup [.int 0, .int 1] = nq 0 := nq_of (by decide +kernel) (by decide +kernel)
theorem g_subI {i j : Int} {S : Sto} {Q : D → Sto → Prop} (q : Q (.int (i - j)) S) : WG (gSub (.int i) (.int j) S) Q := ⟨_, _, rfl, q⟩
/-! ### cut -/
theorem g_lstOfR {i : Nat} {xs : List D} {S : Sto} (hs : S[i]? = some (.lst xs)) {Q : D → Sto → Prop} (q : Q (.ref S.length) (S ++ [.lst xs])) : WG (gLstOf [.ref i] S) Q := ⟨_, _, by unfold gLstOf; dsimp only; rw [items_ref hs]; rfl, q⟩
theorem wv_pop {mo : M D} {ρ : Rf.Env} {S : Sto} {Q : D → Sto → Prop} (h : WV (mo ρ S) fun o S1 => ∃ i xs d, o = .ref i ∧ S1[i]? = some (.lst xs) ∧ xs[xs.length - 1]? = some d ∧ Q d (S1.set i (.lst xs.dropLast))) : WV (mPop mo ρ S) Q := by
  refine wv_b (h.imp fun o S1 h1 => ?_)
  obtain ⟨i, xs, d, rfl, e1, e2, q⟩ := h1
  refine ⟨_, _, ?_, q⟩
  dsimp only
  rw [e1]
  dsimp only
  rw [e2]
end Gn

namespace Gn
open PySem PySem.Spec PyProof.Rows L2 Rf
local macro_rules
  | `(tactic| infer_instance) => `(tactic| with_reducible first
    | apply ws_seq
    | apply ws_ret
    | apply ws_if
    | apply ws_ex
    | apply ws_asg
    | apply ws_par
    | apply ws_dput
    | apply ws_lput
    | apply ws_nil
    | apply ws_retN
    | apply s0
    | apply s1
    | apply s2
    | apply s3
    | apply s4
    | apply s5
    | apply s6
    | apply s7
    | apply s8
    | apply s9
    | apply s10
    | apply s11
    | apply s12
    | apply s13
    | apply s14
    | apply s15
    | apply s16
    | apply s17
    | apply s18
    | apply s19
    | apply s20
    | apply s21
    | apply s22
    | apply s23
    | apply s24
    | apply s25
    | apply wv_op
    | apply wv_un
    | apply wv_bi
    | apply wv_call
    | apply wv_call0
    | apply wv_tup
    | apply wv_lst
    | apply wv_cons
    | apply wv_nil
    | apply wv_T
    | apply wv_tru
    | apply wv_not
    | apply wv_and
    | apply wv_or
    | apply wv_if
    | apply wv_andV
    | apply wv_orV
    | apply wv_yes
    | apply wv_ret
    | apply wv_app
    | apply wv_dget
    | apply wv_dget2
    | apply wv_din
    | apply wv_dct1
    | apply wv_dct0
    | apply wv_sx2
    | apply wv_sxH
    | apply wv_sxL
    | apply exI
    | apply v0
    | apply v1
    | apply v2
    | apply v3
    | apply v4
    | apply v5
    | apply v6
    | apply v7
    | apply v8
    | apply v9
    | apply v10
    | apply v11
    | apply v12
    | apply v13
    | apply v14
    | apply v15
    | apply v16
    | apply v17
    | apply v18
    | apply v19
    | apply v20
    | apply v21
    | apply v22
    | apply v23
    | apply v24
    | apply v25
    | apply g_add
    | apply g_sub
    | apply g_iadd
    | apply g_isub
    | apply g_lt
    | apply g_le
    | apply g_gt
    | apply g_ge
    | apply g_eq
    | apply g_ne
    | apply g_neg
    | apply g_not
    | apply g_gcd
    | apply g_abs
    | apply g_int
    | apply g_intb
    | apply g_nq0
    | apply g_nq1
    | apply g_ix0
    | apply g_ix1
    | apply g_ix2
    | apply g_lenT
    | apply exT
    | apply exTru
    | apply ifT
    | apply ifF
    | apply ifT'
    | apply ifF'
    | apply nf1
    | apply nf2
    | apply nf3
    | apply nf4
    | apply len0
    | apply len1
    | apply len2
    | apply len3
    | apply len4
    )
/-! ### values of rows -/
def hr {R : Type} [Add R] [Mul R] [OfNat R 0] (w : Nat → R) (y : R) : Nat → Nat → R
  | _, 0 => 0
  | s, c + 1 => w s + y * hr w y (s + 1) c
theorem hr_congr {R : Type} [Add R] [Mul R] [OfNat R 0] {w w' : Nat → R} {y : R} : ∀ {s c : Nat}, (∀ i, s ≤ i → i < s + c → w i = w' i) → hr w y s c = hr w' y s c
  | _, 0, _ => rfl
  | s, c + 1, h => by
    rw [hr, hr, h s (Nat.le_refl _) (by omega), hr_congr fun i h1 h2 => h i (by omega) (by omega)]
theorem hr_cast {w : Nat → Int} {a : Int} : ∀ {s c : Nat}, ((hr w a s c : Int) : Rat) = hr (fun i => (w i : Rat)) (a : Rat) s c
  | _, 0 => rfl
  | s, c + 1 => by rw [hr, hr, Rat.intCast_add, Rat.intCast_mul, hr_cast]
theorem hr_synth {w w' : Nat → Rat} {a y : Rat} : ∀ {s c : Nat}, (∀ e, s ≤ e → e < s + c → w' e = w e + a * w' (e + 1)) → w' (s + c) = w (s + c) → hr w y s (c + 1) = w' s + (y - a) * hr w' y (s + 1) c
  | s, 0, _, h => by
    rw [hr, hr, hr]
    have : w' s = w s := h
    grind
  | s, c + 1, h, h2 => by
    have ih := hr_synth (w := w) (w' := w') (a := a) (y := y) (s := s + 1) (c := c) (fun e h1 h3 => h e (by omega) (by omega)) (by rw [show s + 1 + c = s + (c + 1) by omega]; exact h2)
    have hs := h s (Nat.le_refl _) (by omega)
    rw [hr, ih]
    have e1 : hr w' y (s + 1) (c + 1) = w' (s + 1) + y * hr w' y (s + 1 + 1) c := by rw [hr]
    rw [e1]
    grind
def mh (w : Nat → Rat) (z tail : Rat) : Nat → Nat → Rat
  | _, 0 => tail
  | s, m + 1 => w s + z * mh w z tail (s + 1) m
theorem mh_snoc {w : Nat → Rat} {z t : Rat} : ∀ {s m : Nat}, mh w z (w (s + m) + z * t) s m = mh w z t s (m + 1)
  | s, 0 => by rw [mh, mh, mh]; rfl
  | s, m + 1 => by
    rw [mh, show s + (m + 1) = s + 1 + m by omega, mh_snoc]
    rfl
theorem mh_congr {w w' : Nat → Rat} {z t : Rat} : ∀ {s m : Nat}, (∀ i, s ≤ i → i < s + m → w i = w' i) → mh w z t s m = mh w' z t s m
  | _, 0, _ => rfl
  | s, m + 1, h => by rw [mh, mh, h s (Nat.le_refl _) (by omega), mh_congr fun i h1 h2 => h i (by omega) (by omega)]
theorem mh_hr {w : Nat → Rat} {z : Rat} : ∀ {s m c : Nat}, mh w z (hr w z (s + m) c) s m = hr w z s (m + c)
  | s, 0, c => by rw [mh, Nat.zero_add]; rfl
  | s, m + 1, c => by
    rw [mh, show s + (m + 1) = s + 1 + m by omega, mh_hr, show m + 1 + c = (m + c) + 1 by omega, hr]
/-- one more division by the same linear form, from place m on -/
def syn (w : Nat → Int) (a : Int) (top m : Nat) : Nat → Int := fun e => if m ≤ e ∧ e ≤ top then hr w a e (top + 1 - e) else w e
def stI (w : Nat → Int) (a : Int) (top : Nat) : Nat → Nat → Int
  | 0 => w
  | m + 1 => syn (stI w a top m) a top m
theorem syn_top {w : Nat → Int} {a : Int} {top m : Nat} (h : m ≤ top) : syn w a top m top = w top := by
  unfold syn
  rw [if_pos ⟨h, Nat.le_refl _⟩, show top + 1 - top = 1 by omega, hr, hr, Int.mul_zero, Int.add_zero]
theorem syn_step {w : Nat → Int} {a : Int} {top m e : Nat} (h : m ≤ e) (h2 : e < top) : syn w a top m e = w e + a * syn w a top m (e + 1) := by
  unfold syn
  rw [if_pos ⟨h, by omega⟩, if_pos ⟨by omega, by omega⟩, show top + 1 - e = (top + 1 - (e + 1)) + 1 by omega, hr]
theorem syn_low {w : Nat → Int} {a : Int} {top m e : Nat} (h : e < m) : syn w a top m e = w e := by
  unfold syn
  rw [if_neg (by omega)]
theorem st_ev_aux (w : Nat → Int) (a : Int) (top : Nat) (y : Rat) : ∀ m, m ≤ top → hr (fun i => (w i : Rat)) y 0 (top + 1) = mh (fun i => (stI w a top m i : Rat)) (y - (a : Rat)) (hr (fun i => (stI w a top m i : Rat)) y m (top + 1 - m)) 0 m := fun m => by
  induction m with
  | zero => exact fun _ => rfl
  | succ m ih =>
    intro hm
    rw [ih (by omega)]
    have e1 : top + 1 - m = (top - m) + 1 := by omega
    have e2 : top + 1 - (m + 1) = top - m := by omega
    rw [e1, e2]
    have e3 : (fun i => (stI w a top (m + 1) i : Rat)) = fun i => (syn (stI w a top m) a top m i : Rat) := rfl
    rw [e3]
    generalize stI w a top m = u
    have s := hr_synth (w := fun i => (u i : Rat)) (w' := fun i => (syn u a top m i : Rat)) (a := (a : Rat)) (y := y) (s := m) (c := top - m) (fun e h1 h2 => by
      show ((syn u a top m e : Int) : Rat) = (u e : Rat) + (a : Rat) * ((syn u a top m (e + 1) : Int) : Rat)
      rw [syn_step h1 (by omega), Rat.intCast_add, Rat.intCast_mul]) (by
      show ((syn u a top m (m + (top - m)) : Int) : Rat) = (u (m + (top - m)) : Rat)
      rw [show m + (top - m) = top by omega, syn_top (by omega)])
    rw [s]
    have c : mh (fun i => (u i : Rat)) (y - (a : Rat)) ((syn u a top m m : Int) + (y - (a : Rat)) * hr (fun i => (syn u a top m i : Rat)) y (m + 1) (top - m)) 0 m = mh (fun i => (syn u a top m i : Rat)) (y - (a : Rat)) ((syn u a top m m : Int) + (y - (a : Rat)) * hr (fun i => (syn u a top m i : Rat)) y (m + 1) (top - m)) 0 m := mh_congr fun i _ h2 => by
      show (u i : Rat) = ((syn u a top m i : Int) : Rat)
      rw [syn_low (by omega)]
    rw [c]
    have d := mh_snoc (w := fun i => (syn u a top m i : Rat)) (z := y - (a : Rat)) (t := hr (fun i => (syn u a top m i : Rat)) y (m + 1) (top - m)) (s := 0) (m := m)
    rw [Nat.zero_add] at d
    exact d
theorem st_ev (w : Nat → Int) (a : Int) (top : Nat) (y : Rat) : hr (fun i => (w i : Rat)) y 0 (top + 1) = hr (fun i => (stI w a top top i : Rat)) (y - (a : Rat)) 0 (top + 1) := by
  rw [st_ev_aux w a top y top (Nat.le_refl _), show top + 1 - top = 1 by omega]
  generalize stI w a top top = u
  have e : hr (fun i => (u i : Rat)) y top 1 = hr (fun i => (u i : Rat)) (y - (a : Rat)) (0 + top) 1 := by
    rw [Nat.zero_add, hr, hr, hr, hr, Rat.mul_zero, Rat.mul_zero]
  rw [e, mh_hr]
theorem hr_scale {w h : Nat → Rat} {K D u : Rat} {top : Nat} : ∀ {s c : Nat}, s + c = top + 1 → (∀ e, s ≤ e → e < s + c → w e = h e * (K * D ^ (top - e))) → hr w (D * u) s c = K * D ^ (top - s) * hr h u s c
  | s, 0, _, _ => by rw [hr, hr, Rat.mul_zero]
  | s, c + 1, hc, h1 => by
    have ih := hr_scale (w := w) (h := h) (K := K) (D := D) (u := u) (top := top) (s := s + 1) (c := c) (by omega) fun e h2 h3 => h1 e (by omega) (by omega)
    rw [hr, hr, ih, h1 s (Nat.le_refl _) (by omega)]
    cases c with
    | zero => rw [hr]; grind
    | succ c =>
      have : top - s = (top - (s + 1)) + 1 := by omega
      rw [this, Rat.pow_succ]
      grind
/-- equal values everywhere: equal rows -/
theorem hr_zero : ∀ {n : Nat} {w : Nat → Rat} {s p : Nat}, (∀ m : Nat, hr w ((p + m : Nat) : Rat) s n = 0) → ∀ i, s ≤ i → i < s + n → w i = 0
  | 0, _, _, _, _, i, h1, h2 => absurd h2 (by omega)
  | n + 1, w, s, p, h, i, h1, h2 => by
    let w' : Nat → Rat := fun e => hr w (p : Rat) e (s + n + 1 - e)
    have st : ∀ e, s ≤ e → e < s + n → w' e = w e + (p : Rat) * w' (e + 1) := fun e h3 h4 => by
      show hr w (p : Rat) e (s + n + 1 - e) = w e + (p : Rat) * hr w (p : Rat) (e + 1) (s + n + 1 - (e + 1))
      rw [show s + n + 1 - e = (s + n + 1 - (e + 1)) + 1 by omega, hr]
    have tp : w' (s + n) = w (s + n) := by
      show hr w (p : Rat) (s + n) (s + n + 1 - (s + n)) = _
      rw [show s + n + 1 - (s + n) = 1 by omega, hr, hr, Rat.mul_zero, Rat.add_zero]
    have hs : w' s = 0 := by
      show hr w (p : Rat) s (s + n + 1 - s) = 0
      rw [show s + n + 1 - s = n + 1 by omega]
      exact h 0
    have ih := hr_zero (n := n) (w := w') (s := s + 1) (p := p + 1) fun m => by
      have a := h (m + 1)
      rw [hr_synth (a := (p : Rat)) (w' := w') (fun e h3 h4 => st e h3 h4) tp, hs] at a
      have e : ((p + (m + 1) : Nat) : Rat) - (p : Rat) ≠ 0 := by
        have e1 : ((p + (m + 1) : Nat) : Rat) = (p : Rat) + ((m + 1 : Nat) : Rat) := by exact_mod_cast rfl
        have e2 : ((m + 1 : Nat) : Rat) ≠ 0 := by exact_mod_cast Nat.succ_ne_zero m
        grind
      rw [show p + 1 + m = p + (m + 1) by omega]
      grind
    by_cases c : i = s + n
    · rw [c, ← tp]
      cases n with
      | zero => exact hs
      | succ n => exact ih _ (by omega) (by omega)
    · have hi := st i h1 (by omega)
      have z1 : w' i = 0 := by
        by_cases c2 : i = s
        · rw [c2]; exact hs
        · exact ih i (by omega) (by omega)
      have z2 : w' (i + 1) = 0 := ih (i + 1) (by omega) (by omega)
      rw [z1, z2] at hi
      grind
end Gn

namespace Gn
open PySem PySem.Spec PyProof.Rows L2 Rf
/-! ### polynomials of equal values are equal -/
def VV (B : Nat) : Nat → (List Int → Rat) → List Rat → Rat
  | 0, f, _ => f []
  | n + 1, f, pt => hr (fun i => VV B n (fun e => f ((i : Int) :: e)) pt.tail) (pt.headD 0) 0 B
theorem hr_addV {f g : Nat → Rat} {y : Rat} : ∀ {s c : Nat}, hr (fun i => f i + g i) y s c = hr f y s c + hr g y s c
  | s, 0 => by rw [hr, hr, hr, Rat.add_zero]
  | s, c + 1 => by
    rw [hr, hr, hr, hr_addV]
    grind
theorem hr_zeroV {y : Rat} : ∀ {s c : Nat}, hr (fun _ => (0 : Rat)) y s c = 0
  | _, 0 => rfl
  | s, c + 1 => by rw [hr, hr_zeroV, Rat.mul_zero, Rat.add_zero]
theorem hr_scaleV {f : Nat → Rat} {k y : Rat} : ∀ {s c : Nat}, hr (fun i => k * f i) y s c = k * hr f y s c
  | s, 0 => by rw [hr, hr, Rat.mul_zero]
  | s, c + 1 => by rw [hr, hr, hr_scaleV]; grind
theorem hr_one {x y : Rat} {j : Nat} : ∀ {s c : Nat}, s ≤ j → j < s + c → hr (fun i => if j = i then x else 0) y s c = x * y ^ (j - s)
  | s, 0, h1, h2 => absurd h2 (by omega)
  | s, c + 1, h1, h2 => by
    rw [hr]
    by_cases e : j = s
    · subst e
      rw [if_pos rfl, Nat.sub_self, Rat.pow_zero, Rat.mul_one]
      have : hr (fun i => if j = i then x else 0) y (j + 1) c = 0 := by
        rw [hr_congr (w' := fun _ => (0 : Rat)) fun i a b => if_neg (by omega), hr_zeroV]
      rw [this, Rat.mul_zero, Rat.add_zero]
    · rw [if_neg e, hr_one (s := s + 1) (c := c) (by omega) (by omega), show j - s = (j - (s + 1)) + 1 by omega, Rat.pow_succ]
      grind
theorem VV_congr {B : Nat} : ∀ {n : Nat} {f g : List Int → Rat} {pt : List Rat}, (∀ e, e.length = n → f e = g e) → VV B n f pt = VV B n g pt
  | 0, f, g, pt, h => h [] rfl
  | n + 1, f, g, pt, h => hr_congr fun i _ _ => VV_congr fun e he => h _ (by rw [List.length_cons, he])
theorem VV_add {B : Nat} : ∀ {n : Nat} {f g : List Int → Rat} {pt : List Rat}, VV B n (fun e => f e + g e) pt = VV B n f pt + VV B n g pt
  | 0, f, g, pt => rfl
  | n + 1, f, g, pt => by
    show hr (fun i => VV B n (fun e => f ((i : Int) :: e) + g ((i : Int) :: e)) pt.tail) _ 0 B = _
    rw [hr_congr (w' := fun i => VV B n (fun e => f ((i : Int) :: e)) pt.tail + VV B n (fun e => g ((i : Int) :: e)) pt.tail) fun i _ _ => VV_add, hr_addV]
    rfl
theorem VV_zero {B : Nat} : ∀ {n : Nat} {pt : List Rat}, VV B n (fun _ => 0) pt = 0
  | 0, pt => rfl
  | n + 1, pt => by
    show hr (fun i => VV B n (fun _ => 0) pt.tail) _ 0 B = 0
    rw [hr_congr (w' := fun _ => (0 : Rat)) fun i _ _ => VV_zero, hr_zeroV]
theorem tv_mul {c d : Rat} {e : List Int} {pt : List Rat} : ∀ j, tv (c * d) e pt j = c * tv d e pt j
  | 0 => rfl
  | j + 1 => by rw [tv, tv, tv_mul j, Rat.mul_assoc]
theorem tv_cons {c y : Rat} {i : Int} {e : List Int} {pt : List Rat} : ∀ j, tv c (i :: e) (y :: pt) (j + 1) = tv (c * y ^ i.toNat) e pt j
  | 0 => rfl
  | j + 1 => by
    rw [tv, tv_cons j, tv]
    rfl
theorem EB_tail {n : Nat} {B i : Int} {e : List Int} (h : EB (n + 1) B (i :: e)) : EB n B e ∧ 0 ≤ i ∧ i < B := ⟨⟨by have := h.1; rw [List.length_cons] at this; omega, h.2.tail⟩, h.2.head⟩
theorem VV_single {B : Nat} {x : Rat} : ∀ {n : Nat} {e0 : List Int} {pt : List Rat}, EB n (B : Int) e0 → pt.length = n → VV B n (fun e => if e0 = e then x else 0) pt = tv x e0 pt n
  | 0, [], pt, _, _ => by
    show (if ([] : List Int) = [] then x else 0) = x
    exact if_pos rfl
  | 0, _ :: _, pt, h, _ => by have := h.1; rw [List.length_cons] at this; omega
  | n + 1, [], pt, h, _ => by have := h.1; simp at this
  | n + 1, i :: e0, [], h, hp => by simp at hp
  | n + 1, i :: e0, y :: pt, h, hp => by
    obtain ⟨h1, h2, h3⟩ := EB_tail h
    have hp' : pt.length = n := by simpa using hp
    show hr (fun j => VV B n (fun e => if (i :: e0) = ((j : Int) :: e) then x else 0) pt) y 0 B = _
    have e1 : ∀ j : Nat, VV B n (fun e => if (i :: e0) = ((j : Int) :: e) then x else 0) pt = if i.toNat = j then tv x e0 pt n else 0 := fun j => by
      by_cases c : i.toNat = j
      · rw [if_pos c, ← VV_single h1 hp']
        refine VV_congr fun e _ => ?_
        have : i = (j : Int) := by omega
        by_cases c2 : e0 = e
        · rw [if_pos c2, if_pos (by rw [this, c2])]
        · rw [if_neg c2, if_neg (fun z => c2 (List.cons.inj z).2)]
      · have e2 : VV B n (fun e => if (i :: e0) = ((j : Int) :: e) then x else 0) pt = VV B n (fun _ => 0) pt := VV_congr fun e _ => by
          rw [if_neg (fun z => c (by have := (List.cons.inj z).1; omega))]
        rw [if_neg c, e2, VV_zero]
    rw [hr_congr (w' := fun j => if i.toNat = j then tv x e0 pt n else 0) fun j _ _ => e1 j, hr_one (Nat.zero_le _) (by omega), tv_cons, Nat.sub_zero, Rat.mul_comm x, tv_mul, Rat.mul_comm]
theorem VV_null {B : Nat} : ∀ {n : Nat} {f : List Int → Rat}, (∀ pt : List Rat, pt.length = n → VV B n f pt = 0) → ∀ e, EB n (B : Int) e → f e = 0
  | 0, f, h, [], _ => h [] rfl
  | 0, f, h, _ :: _, he => by have := he.1; rw [List.length_cons] at this; omega
  | n + 1, f, h, [], he => by have := he.1; simp at this
  | n + 1, f, h, i :: e, he => by
    obtain ⟨h1, h2, h3⟩ := EB_tail he
    have := VV_null (n := n) (f := fun e => f (((i.toNat : Nat) : Int) :: e)) (fun pt hp => hr_zero (n := B) (w := fun j => VV B n (fun e => f ((j : Int) :: e)) pt) (s := 0) (p := 0) (fun m => h (((0 + m : Nat) : Rat) :: pt) (by rw [List.length_cons, hp])) i.toNat (Nat.zero_le _) (by omega)) e h1
    rw [show ((i.toNat : Nat) : Int) = i by omega] at this
    exact this
theorem vs_foldl {n : Nat} {pt : List Rat} : ∀ (I : Pol) (s : Rat), I.foldl (fun s t => s + tv t.2 t.1 pt n) s = s + vs n pt I
  | [], s => (Rat.add_zero s).symm
  | t :: I, s => by
    show I.foldl _ (s + tv t.2 t.1 pt n) = s + I.foldl _ (0 + tv t.2 t.1 pt n)
    rw [vs_foldl I, vs_foldl I]
    grind
theorem vs_cons {n : Nat} {pt : List Rat} {t : List Int × Rat} {I : Pol} : vs n pt (t :: I) = tv t.2 t.1 pt n + vs n pt I := by
  show I.foldl _ (0 + tv t.2 t.1 pt n) = _
  rw [vs_foldl, Rat.zero_add]
theorem vs_app {n : Nat} {pt : List Rat} : ∀ (I J : Pol), vs n pt (I ++ J) = vs n pt I + vs n pt J
  | [], J => (Rat.zero_add _).symm
  | t :: I, J => by rw [List.cons_append, vs_cons, vs_cons, vs_app I J, Rat.add_assoc]
theorem vs_VV {n B : Nat} {pt : List Rat} (hp : pt.length = n) : ∀ {I : Pol}, PK n (B : Int) I → vs n pt I = VV B n (sumAt I) pt
  | [], _ => VV_zero.symm
  | t :: I, h => by
    rw [vs_cons, vs_VV hp fun e he => h e (List.mem_cons_of_mem _ he), ← VV_single (h t.1 List.mem_cons_self) hp, ← VV_add]
    rfl
theorem vs_same {n B : Nat} {pt : List Rat} (hp : pt.length = n) {I J : Pol} (hI : PK n (B : Int) I) (hJ : PK n (B : Int) J) (h : ∀ e, sumAt I e = sumAt J e) : vs n pt I = vs n pt J := by
  rw [vs_VV hp hI, vs_VV hp hJ]
  exact VV_congr fun e _ => h e
theorem pol_ext {n B : Nat} {p q : Pol} (hp : WF n p) (hq : WF n q) (kp : PK n (B : Int) p) (kq : PK n (B : Int) q) (h : ∀ pt : List Rat, pt.length = n → vs n pt p = vs n pt q) : p = q := by
  refine hp.ext hq fun e => ?_
  by_cases c : EB n (B : Int) e
  · have z := VV_null (B := B) (n := n) (f := fun e => sumAt p e + (-1) * sumAt q e) (fun pt hl => by
      have e1 := h pt hl
      rw [vs_VV hl kp, vs_VV hl kq] at e1
      have e2 : ∀ {m : Nat} {f : List Int → Rat} {pt : List Rat}, VV B m (fun e => (-1) * f e) pt = (-1) * VV B m f pt := fun {m} => by
        induction m with
        | zero => exact rfl
        | succ m ih =>
          intro f pt
          show hr (fun i => VV B m (fun e => (-1) * f ((i : Int) :: e)) pt.tail) _ 0 B = _
          rw [hr_congr (w' := fun i => (-1) * VV B m (fun e => f ((i : Int) :: e)) pt.tail) fun i _ _ => ih, hr_scaleV]
          rfl
      rw [VV_add, e2, e1]
      grind) e c
    rw [sumAt_co hp.nodup, sumAt_co hq.nodup] at z
    grind
  · have z1 : co p e = 0 := by
      by_cases z : co p e = 0
      · exact z
      · exact absurd (kp e (hp.mem_iff.mpr z)) c
    have z2 : co q e = 0 := by
      by_cases z : co q e = 0
      · exact z
      · exact absurd (kq e (hq.mem_iff.mpr z)) c
    rw [z1, z2]
/-! ### values of sums and products -/
theorem rpow_add (y : Rat) (j : Nat) : ∀ l : Nat, y ^ (j + l) = y ^ j * y ^ l
  | 0 => by rw [Nat.add_zero, Rat.pow_zero, Rat.mul_one]
  | l + 1 => by rw [← Nat.add_assoc, Rat.pow_succ, Rat.pow_succ, rpow_add y j l, Rat.mul_assoc]
theorem getD_add {a b : List Int} {n : Nat} (ha : a.length = n) (hb : b.length = n) {j : Nat} (hj : j < n) : (addE a b).getD j 0 = a.getD j 0 + b.getD j 0 := by
  unfold addE
  rw [List.getD_eq_getElem?_getD, List.getD_eq_getElem?_getD, List.getD_eq_getElem?_getD, List.getElem?_zipWith, List.getElem?_eq_getElem (by omega), List.getElem?_eq_getElem (by omega)]
  rfl
theorem tv_addE {n : Nat} {B B' : Int} {a b : List Int} (ha : EB n B a) (hb : EB n B' b) {c d : Rat} {pt : List Rat} : ∀ j, j ≤ n → tv (c * d) (addE a b) pt j = tv c a pt j * tv d b pt j
  | 0, _ => rfl
  | j + 1, h => by
    have g1 := getE ha (show j < n by omega)
    have g2 := getE hb (show j < n by omega)
    rw [tv, tv, tv, tv_addE ha hb j (by omega), getD_add ha.1 hb.1 (by omega), show (a.getD j 0 + b.getD j 0).toNat = (a.getD j 0).toNat + (b.getD j 0).toNat by omega, rpow_add]
    grind
theorem vs_row {n : Nat} {B B' : Int} {pt : List Rat} {t : List Int × Rat} (ht : EB n B t.1) : ∀ {q : Pol}, PK n B' q → vs n pt (q.map fun u => (addE t.1 u.1, t.2 * u.2)) = tv t.2 t.1 pt n * vs n pt q
  | [], _ => (Rat.mul_zero _).symm
  | u :: q, h => by
    rw [List.map_cons, vs_cons, vs_cons, vs_row ht fun e he => h e (List.mem_cons_of_mem _ he), tv_addE ht (h u.1 List.mem_cons_self) n (Nat.le_refl _)]
    grind
theorem vs_prod {n : Nat} {B B' : Int} {pt : List Rat} : ∀ {p q : Pol}, PK n B p → PK n B' q → vs n pt (prodR p q) = vs n pt p * vs n pt q
  | [], q, _, _ => (Rat.zero_mul _).symm
  | t :: p, q, hp, hq => by
    have e : prodR (t :: p) q = (q.map fun u => (addE t.1 u.1, t.2 * u.2)) ++ prodR p q := by
      show List.flatMap _ (t :: p) = _
      rw [List.flatMap_cons]; rfl
    rw [e, vs_app, vs_row (hp t.1 List.mem_cons_self) hq, vs_prod (fun e he => hp e (List.mem_cons_of_mem _ he)) hq, vs_cons]
    grind
end Gn

set_option maxHeartbeats 2000000
namespace Gn
open PySem PySem.Spec PyProof.Rows L2 Rf
local macro_rules
  | `(tactic| infer_instance) => `(tactic| with_reducible first
    | apply ws_seq
    | apply ws_ret
    | apply ws_if
    | apply ws_ex
    | apply ws_asg
    | apply ws_par
    | apply ws_dput
    | apply ws_lput
    | apply ws_nil
    | apply ws_retN
    | apply s0
    | apply s1
    | apply s2
    | apply s3
    | apply s4
    | apply s5
    | apply s6
    | apply s7
    | apply s8
    | apply s9
    | apply s10
    | apply s11
    | apply s12
    | apply s13
    | apply s14
    | apply s15
    | apply s16
    | apply s17
    | apply s18
    | apply s19
    | apply s20
    | apply s21
    | apply s22
    | apply s23
    | apply s24
    | apply s25
    | apply wv_op
    | apply wv_un
    | apply wv_bi
    | apply wv_call
    | apply wv_call0
    | apply wv_tup
    | apply wv_lst
    | apply wv_cons
    | apply wv_nil
    | apply wv_T
    | apply wv_tru
    | apply wv_not
    | apply wv_and
    | apply wv_or
    | apply wv_if
    | apply wv_andV
    | apply wv_orV
    | apply wv_yes
    | apply wv_ret
    | apply wv_app
    | apply wv_dget
    | apply wv_dget2
    | apply wv_din
    | apply wv_dct1
    | apply wv_dct0
    | apply wv_sx2
    | apply wv_sxH
    | apply wv_sxL
    | apply exI
    | apply v0
    | apply v1
    | apply v2
    | apply v3
    | apply v4
    | apply v5
    | apply v6
    | apply v7
    | apply v8
    | apply v9
    | apply v10
    | apply v11
    | apply v12
    | apply v13
    | apply v14
    | apply v15
    | apply v16
    | apply v17
    | apply v18
    | apply v19
    | apply v20
    | apply v21
    | apply v22
    | apply v23
    | apply v24
    | apply v25
    | apply g_add
    | apply g_sub
    | apply g_iadd
    | apply g_isub
    | apply g_lt
    | apply g_le
    | apply g_gt
    | apply g_ge
    | apply g_eq
    | apply g_ne
    | apply g_neg
    | apply g_not
    | apply g_gcd
    | apply g_abs
    | apply g_int
    | apply g_intb
    | apply g_nq0
    | apply g_nq1
    | apply g_ix0
    | apply g_ix1
    | apply g_ix2
    | apply g_lenT
    | apply exT
    | apply exTru
    | apply ifT
    | apply ifF
    | apply ifT'
    | apply ifF'
    | apply nf1
    | apply nf2
    | apply nf3
    | apply nf4
    | apply len0
    | apply len1
    | apply len2
    | apply len3
    | apply len4
    )
/-! ### the law's moved polynomial -/
theorem PK.mono {n : Nat} {B B' : Int} {p : Pol} (h : PK n B p) (k : B ≤ B') : PK n B' p := fun e he => ⟨(h e he).1, fun m hm => by have := (h e he).2 m hm; omega⟩
theorem pk_kok {n B : Nat} {p : Pol} (h : PK n (B : Int) p) (hB : B ≤ 1048576) : KOk n (keysA p) := h.kok (by omega)
theorem vs_sum {n B L M : Nat} {pt : List Rat} (hp : pt.length = n) {I : Pol} (hI : PK n (B : Int) I) (hB : B ≤ 1048576) (hb : BT L M I) : vs n pt (sumP I) = vs n pt I := by
  obtain ⟨a, _, b, c⟩ := sumP_facts (pk_kok hI hB) hb
  exact vs_same hp (fun e he => hI e (c e he)) hI fun e => by rw [sumAt_co a.wf.nodup, b]
theorem sum_pk {n L M : Nat} {B : Int} {I : Pol} (hI : PK n B I) (hB : B ≤ 1048576) (hb : BT L M I) : PK n B (sumP I) := fun e he => hI e ((sumP_facts (hI.kok hB) hb).2.2.2 e he)
theorem vs_mul {n B B' L M L' M' : Nat} {pt : List Rat} (hl : pt.length = n) {p q : Pol} (hp : PK n (B : Int) p) (hq : PK n (B' : Int) q) (hB : B + B' ≤ 1048576) (bp : BT L M p) (bq : BT L' M' q) : vs n pt (mulP p q) = vs n pt p * vs n pt q := by
  have hk : PK n ((B + B' : Nat) : Int) (prodR p q) := PK.mono (B := (B : Int) + (B' : Int)) (PK.prod hp hq) (by omega)
  unfold mulP
  rw [vs_sum hl hk hB (prodR_bt bp bq), vs_prod hp hq]
theorem tv_zeros {n : Nat} {c : Rat} {pt : List Rat} : ∀ j, tv c (List.replicate n (0 : Int)) pt j = c
  | 0 => rfl
  | j + 1 => by
    have e : (List.replicate n (0 : Int)).getD j 0 = 0 := by
      rw [List.getD_eq_getElem?_getD, List.getElem?_replicate]
      split <;> rfl
    rw [tv, tv_zeros j, e]
    show c * _ ^ 0 = c
    rw [Rat.pow_zero, Rat.mul_one]
theorem vs_one {n : Nat} {pt : List Rat} : vs n pt (oneP n) = 1 := by
  unfold oneP
  rw [vs_cons, tv_zeros]
  exact Rat.add_zero _
/-- the exponents of a single variable -/
def uE (n k : Nat) : List Int := (List.range n).map fun i => if i = k then 1 else 0
theorem uE_eb {n k : Nat} : EB n 2 (uE n k) := ⟨by unfold uE; rw [List.length_map, List.length_range], fun m hm => by
  obtain ⟨i, _, rfl⟩ := List.mem_map.mp hm
  show 0 ≤ (if i = k then (1 : Int) else 0) ∧ (if i = k then (1 : Int) else 0) < 2
  split <;> omega⟩
theorem uE_at {n k j : Nat} (h : j < n) : (uE n k).getD j 0 = if j = k then 1 else 0 := by
  unfold uE
  rw [List.getD_eq_getElem?_getD, List.getElem?_map, List.getElem?_range h]
  rfl
theorem tv_uE {n k : Nat} {pt : List Rat} : ∀ j, j ≤ n → tv 1 (uE n k) pt j = if k < j then pt.getD k 0 else 1
  | 0, _ => by rw [if_neg (by omega)]; rfl
  | j + 1, h => by
    rw [tv, tv_uE j (by omega), uE_at (by omega)]
    by_cases c : j = k
    · subst c
      rw [if_neg (by omega), if_pos rfl, if_pos (by omega)]
      show (1 : Rat) * _ ^ 1 = _
      rw [Rat.pow_succ, Rat.pow_zero]
      grind
    · rw [if_neg c]
      show _ * _ ^ 0 = _
      rw [Rat.pow_zero, Rat.mul_one]
      by_cases c2 : k < j
      · rw [if_pos c2, if_pos (by omega)]
      · rw [if_neg c2, if_neg (by omega)]
def varP (n k : Nat) : Pol := [(uE n k, 1)]
theorem w_law_var {n k : Nat} (hn : n ≤ 500) {S : Sto} {Q : D → Sto → Prop} (q : ∀ S', Keep S S' → Q (polD (varP n k)) S') : WV (F__law_var [.int (n : Int), .int (k : Int)] S) Q := by
  unfold F__law_var m__law_var
  refine wfn [some (.int (n : Int)), some (.int (k : Int)), none] rfl ?_
  repeat infer_instance
  refine wv_lc (rngD 0 n) (fun d => match d with
    | .int j => some (.int (if j.toNat = k then 1 else 0))
    | _ => none) (by rw [rngD_len]; omega) ?_
  refine wv_rng1 ?_
  repeat infer_instance
  refine ⟨_, rfl, rngOk_nat (by omega), fun _ _ => by rw [Int.toNat_natCast]; exact sqIs_it, fun y hy S2 k2 => ?_, fun i S2 k2 hi hr2 => ?_⟩
  · obtain ⟨j, hj, rfl⟩ := rngD_mem hy
    refine ⟨_, rfl, wv_yes ⟨Keep.refl _, fun _ => ?_, fun z => nomatch z⟩⟩
    unfold L0__law_var
    simp only [tN, wipeE, set0, setS]
    repeat infer_instance
    refine ⟨Keep.refl _, ?_⟩
    rw [Int.toNat_natCast]
    congr 2
    by_cases c : j = k
    · rw [if_pos c, decide_eq_true (by omega)]; rfl
    · rw [if_neg c, decide_eq_false (by omega)]; rfl
  · repeat infer_instance
    refine g_tupR hr2 ?_
    repeat infer_instance
    have e : (rngD 0 n).filterMap (fun d => match d with
      | .int j => some (.int (if j.toNat = k then 1 else 0))
      | _ => none) = (uE n k).map D.int := by
      rw [rngD_filterMap (n := n) (fun j => D.int (if j = k then 1 else 0)) _ fun j hj => by
        show some (D.int (if ((j : Int)).toNat = k then 1 else 0)) = _
        rw [Int.toNat_natCast]]
      unfold uE
      rw [List.map_map]
      rfl
    rw [e]
    exact q _ k2
/-- a point moved by another -/
def shP (n : Nat) (pt a : List Rat) : List Rat := (List.range n).map fun i => pt.getD i 0 + a.getD i 0
theorem shP_at {n j : Nat} {pt a : List Rat} (h : j < n) : (shP n pt a).getD j 0 = pt.getD j 0 + a.getD j 0 := by
  unfold shP
  rw [List.getD_eq_getElem?_getD, List.getElem?_map, List.getElem?_range h]
  rfl
/-- x_k + a -/
def linP (n k : Nat) (a : Rat) : Pol := sumP (varP n k ++ tidy [(List.replicate n 0, a)])
theorem cst_kok {n : Nat} {a : Rat} : KOk n (keysA [(List.replicate n (0 : Int), a)]) := fun e he => by
  unfold keysA at he
  rw [List.map_cons, List.map_nil, List.mem_singleton] at he
  subst he
  exact zeros_ok
theorem cst_nodup {n : Nat} {a : Rat} : (keysA [(List.replicate n (0 : Int), a)]).Nodup := by unfold keysA; simp
theorem cst_pk {n : Nat} {a : Rat} {B : Int} (hB : 1 ≤ B) : PK n B (tidy [(List.replicate n (0 : Int), a)]) := fun e he => by
  have := tidy_keys e he
  unfold keysA at this
  rw [List.map_cons, List.map_nil, List.mem_singleton] at this
  subst this
  exact ⟨List.length_replicate, fun m hm => by rw [(List.mem_replicate.mp hm).2]; omega⟩
theorem cst_bt {n L M : Nat} {a : Rat} (h : BQ L M a) : BT L M (tidy [(List.replicate n (0 : Int), a)]) := tidy_bt fun t ht => by
  rw [List.mem_singleton] at ht
  subst ht
  exact h
theorem cst_wf {n : Nat} {a : Rat} : WF n (tidy [(List.replicate n (0 : Int), a)]) := tidy_wf cst_kok cst_nodup
theorem cst_len {n : Nat} {a : Rat} : (tidy [(List.replicate n (0 : Int), a)]).length ≤ 1 := by
  unfold tidy
  refine Nat.le_trans (List.length_filterMap_le _ _) ?_
  rw [(perm_sort _).length_eq]
  exact Nat.le_refl _
theorem cst_vs {n : Nat} {a : Rat} {pt : List Rat} (hl : pt.length = n) : vs n pt (tidy [(List.replicate n (0 : Int), a)]) = a := by
  have h : PK n ((1 : Nat) : Int) [(List.replicate n (0 : Int), a)] := fun e he => by
    unfold keysA at he
    rw [List.map_cons, List.map_nil, List.mem_singleton] at he
    subst he
    exact ⟨List.length_replicate, fun m hm => by rw [(List.mem_replicate.mp hm).2]; omega⟩
  rw [vs_same hl (cst_pk (by decide)) h fun e => by rw [sumAt_co cst_wf.nodup, tidy_co cst_kok cst_nodup, sumAt_co cst_nodup], vs_cons, tv_zeros]
  exact Rat.add_zero _
theorem lin_pk {n k : Nat} {a : Rat} : PK n 2 (varP n k ++ tidy [(List.replicate n (0 : Int), a)]) := fun e he => by
  unfold keysA at he
  rw [List.map_append] at he
  rcases List.mem_append.mp he with h | h
  · have : e = uE n k := List.mem_singleton.mp h
    rw [this]
    exact uE_eb
  · exact cst_pk (by decide) e h
theorem lin_bt {n k : Nat} {a : Rat} (h : BQ 12 9 a) : BT 12 9 (varP n k ++ tidy [(List.replicate n (0 : Int), a)]) := fun t ht => by
  rcases List.mem_append.mp ht with h1 | h1
  · rw [List.mem_singleton.mp h1]
    exact (bq_one.monoL (Nat.one_dvd _)).mono (by decide)
  · exact cst_bt h t h1
theorem lin_len {n k : Nat} {a : Rat} : (varP n k ++ tidy [(List.replicate n (0 : Int), a)]).length ≤ 2 := by
  rw [List.length_append]
  have := cst_len (n := n) (a := a)
  show 1 + _ ≤ 2
  omega
theorem lin_qb {n k : Nat} {a : Rat} (h : BQ 12 9 a) : QB n 2 12 18 2 (linP n k a) := by
  obtain ⟨f1, f2, _, _⟩ := sumP_facts (lin_pk.kok (by decide)) (lin_bt (n := n) (k := k) h)
  have hl := lin_len (n := n) (k := k) (a := a)
  exact ⟨⟨f1.wf, f1.bd.mono (by omega)⟩, sum_pk lin_pk (by decide) (lin_bt h), by unfold linP; omega⟩
theorem lin_vs {n k : Nat} {a : Rat} (h : BQ 12 9 a) (hk : k < n) {pt : List Rat} (hl : pt.length = n) : vs n pt (linP n k a) = pt.getD k 0 + a := by
  unfold linP
  rw [vs_sum (B := 2) hl lin_pk (by decide) (lin_bt h), vs_app, cst_vs hl]
  unfold varP
  rw [vs_cons, tv_uE n (Nat.le_refl _), if_pos hk]
  show _ + 0 + a = _
  rw [Rat.add_zero]
theorem pow_qb {n : Nat} {q : Pol} (hq : QB n 2 12 18 2 q) : (QB n 7 1 1 1 (powP n q 0)) ∧ (QB n 7 12 36 2 (powP n q 1)) ∧ (QB n 7 144 2592 4 (powP n q 2)) ∧ (QB n 7 1728 373248 8 (powP n q 3)) := by
  have h0 : QB n 1 1 1 1 (powP n q 0) := oneP_qb (by decide)
  have h1 := (h0.mul hq (by decide)).1
  have h2 := (h1.mul hq (by decide)).1
  have h3 := (h2.mul hq (by decide)).1
  have up : ∀ {B : Int} {L M m : Nat} {r : Pol}, QB n B L M m r → B ≤ 7 → QB n 7 L M m r := fun h hB => ⟨h.pb, PK.mono h.pk hB, h.len⟩
  exact ⟨up h0 (by decide), up h1 (by decide), up h2 (by decide), up h3 (by decide)⟩
theorem pow_all {n k : Nat} {q : Pol} (hq : QB n 2 12 18 2 q) (hk : k ≤ 3) : QB n 7 1728 373248 8 (powP n q k) := by
  obtain ⟨h0, h1, h2, h3⟩ := pow_qb hq
  have hk' : k = 0 ∨ k = 1 ∨ k = 2 ∨ k = 3 := by omega
  rcases hk' with rfl | rfl | rfl | rfl
  · exact ⟨⟨h0.pb.wf, fun t ht => ((h0.pb.bd t ht).mono (by decide)).monoL (by decide)⟩, h0.pk, Nat.le_trans h0.len (by decide)⟩
  · exact ⟨⟨h1.pb.wf, fun t ht => ((h1.pb.bd t ht).mono (by decide)).monoL (by decide)⟩, h1.pk, Nat.le_trans h1.len (by decide)⟩
  · exact ⟨⟨h2.pb.wf, fun t ht => ((h2.pb.bd t ht).mono (by decide)).monoL (by decide)⟩, h2.pk, Nat.le_trans h2.len (by decide)⟩
  · exact h3
theorem pow_vs {n : Nat} {q : Pol} (hq : QB n 2 12 18 2 q) {pt : List Rat} (hl : pt.length = n) : ∀ {k : Nat}, k ≤ 3 → vs n pt (powP n q k) = vs n pt q ^ k
  | 0, _ => by
    rw [Rat.pow_zero]
    exact vs_one
  | k + 1, h => by
    have hp := pow_all hq (show k ≤ 3 by omega)
    rw [powP, vs_mul (B := 7) (B' := 2) hl hp.pk hq.pk (by decide) hp.pb.bd hq.pb.bd, pow_vs hq hl (by omega), Rat.pow_succ]
end Gn

set_option maxHeartbeats 2000000
namespace Gn
open PySem PySem.Spec PyProof.Rows L2 Rf
local macro_rules
  | `(tactic| infer_instance) => `(tactic| with_reducible first
    | apply ws_seq
    | apply ws_ret
    | apply ws_if
    | apply ws_ex
    | apply ws_asg
    | apply ws_par
    | apply ws_dput
    | apply ws_lput
    | apply ws_nil
    | apply ws_retN
    | apply s0
    | apply s1
    | apply s2
    | apply s3
    | apply s4
    | apply s5
    | apply s6
    | apply s7
    | apply s8
    | apply s9
    | apply s10
    | apply s11
    | apply s12
    | apply s13
    | apply s14
    | apply s15
    | apply s16
    | apply s17
    | apply s18
    | apply s19
    | apply s20
    | apply s21
    | apply s22
    | apply s23
    | apply s24
    | apply s25
    | apply wv_op
    | apply wv_un
    | apply wv_bi
    | apply wv_call
    | apply wv_call0
    | apply wv_tup
    | apply wv_lst
    | apply wv_cons
    | apply wv_nil
    | apply wv_T
    | apply wv_tru
    | apply wv_not
    | apply wv_and
    | apply wv_or
    | apply wv_if
    | apply wv_andV
    | apply wv_orV
    | apply wv_yes
    | apply wv_ret
    | apply wv_app
    | apply wv_dget
    | apply wv_dget2
    | apply wv_din
    | apply wv_dct1
    | apply wv_dct0
    | apply wv_sx2
    | apply wv_sxH
    | apply wv_sxL
    | apply exI
    | apply v0
    | apply v1
    | apply v2
    | apply v3
    | apply v4
    | apply v5
    | apply v6
    | apply v7
    | apply v8
    | apply v9
    | apply v10
    | apply v11
    | apply v12
    | apply v13
    | apply v14
    | apply v15
    | apply v16
    | apply v17
    | apply v18
    | apply v19
    | apply v20
    | apply v21
    | apply v22
    | apply v23
    | apply v24
    | apply v25
    | apply g_add
    | apply g_sub
    | apply g_iadd
    | apply g_isub
    | apply g_lt
    | apply g_le
    | apply g_gt
    | apply g_ge
    | apply g_eq
    | apply g_ne
    | apply g_neg
    | apply g_not
    | apply g_gcd
    | apply g_abs
    | apply g_int
    | apply g_intb
    | apply g_nq0
    | apply g_nq1
    | apply g_ix0
    | apply g_ix1
    | apply g_ix2
    | apply g_lenT
    | apply exT
    | apply exTru
    | apply ifT
    | apply ifF
    | apply ifT'
    | apply ifF'
    | apply nf1
    | apply nf2
    | apply nf3
    | apply nf4
    | apply len0
    | apply len1
    | apply len2
    | apply len3
    | apply len4
    )
def mC : Nat := 373248 * 32768
theorem w_law_moved {p : Pol} {n : Nat} {a : List Rat} (h1 : 1 ≤ n) (hn : n ≤ 4) (hp : QB n 4 12 45 5 p) (ha : PtOk n a) {S : Sto} {Q : D → Sto → Prop}
    (k : ∀ r S', WF n r → PK n 32 r → (∀ pt : List Rat, pt.length = n → vs n pt r = vs n (shP n pt a) p) → Keep S S' → Q (polD r) S') : WV (F__law_moved [.int (n : Int), polD p, ptD a] S) Q := by
  have pl := hp.len
  unfold F__law_moved m__law_moved
  refine wfn [some (.int (n : Int)), some (polD p), some (ptD a), none, none, none, none, none] rfl ?_
  repeat infer_instance
  refine ws_mid (fun ρ S1 => ∃ (r : Pol) (x4 x5 x6 x7 : Option D), Keep S S1 ∧ WF n r ∧ PK n 32 r ∧ (∀ pt : List Rat, pt.length = n → vs n pt r = vs n (shP n pt a) p) ∧ ρ = [some (.int (n : Int)), some (polD p), some (ptD a), some (polD r), x4, x5, x6, x7]) ?_ (fun ρ S1 hM => ?_)
  · refine ws_for (p.map termD) (fun j ρ S1 => j ≤ p.length ∧ ∃ (r : Pol) (x4 x5 x6 x7 : Option D), Keep S S1 ∧ WF n r ∧ PK n 32 r ∧ BT (12 * 1728 ^ 4) (45 * mC ^ 4 * 32768 ^ j) r ∧ r.length ≤ j * 4096 ∧ (∀ pt : List Rat, pt.length = n → vs n pt r = vs n (shP n pt a) (p.take j)) ∧ ρ = [some (.int (n : Int)), some (polD p), some (ptD a), some (polD r), x4, x5, x6, x7]) (by rw [List.length_map]; omega) ?_ (fun j y ρ S1 hy hI => ?_) (fun ρ S1 hI => ?_)
    · refine wv_seq ?_
      repeat infer_instance
      exact ⟨_, rfl, ⟨Nat.zero_le _, [], _, _, _, _, Keep.refl _, ⟨List.Pairwise.nil, fun e he => (nomatch he), fun t ht => (nomatch ht)⟩, fun e he => (nomatch he), fun t ht => (nomatch ht), Nat.zero_le _, fun pt _ => rfl, rfl⟩, fun _ _ _ _ => sqIs_it⟩
    · obtain ⟨_, r, x4, x5, x6, x7, k1, rw', rk, rb, rl, rv, rfl⟩ := hI
      rw [List.getElem?_map] at hy
      obtain ⟨t, ht', rfl⟩ := Option.map_eq_some_iff.mp hy
      have hj := get_lt ht'
      have hm := List.mem_of_getElem? ht'
      have te : EB n 4 t.1 := hp.pk t.1 (List.mem_map.mpr ⟨t, hm, rfl⟩)
      have tb : BQ 12 45 t.2 := hp.pb.bd t hm
      refine ⟨_, unp_d, ?_⟩
      unfold L1__law_moved
      simp only [set0, setS]
      repeat infer_instance
      refine w_law_const h1 (by omega) fun S2 k2 => ?_
      repeat infer_instance
      refine ws_mid (fun ρ S3 => ∃ (q : Pol) (x7 : Option D), Keep S S3 ∧ QB n ((1 + 7 * n : Nat) : Int) (12 * 1728 ^ n) (45 * mC ^ n) (8 ^ n) q ∧ (∀ pt : List Rat, pt.length = n → vs n pt q = tv t.2 t.1 (shP n pt a) n) ∧ ρ = [some (.int (n : Int)), some (polD p), some (ptD a), some (polD r), some (tupI t.1), some (nq t.2), some (polD q), x7]) ?_ (fun ρ S3 hM => ?_)
      · refine ws_for (rngD 0 n) (fun i ρ S3 => i ≤ n ∧ ∃ (q : Pol) (x7 : Option D), Keep S S3 ∧ QB n ((1 + 7 * i : Nat) : Int) (12 * 1728 ^ i) (45 * mC ^ i) (8 ^ i) q ∧ (∀ pt : List Rat, pt.length = n → vs n pt q = tv t.2 t.1 (shP n pt a) i) ∧ ρ = [some (.int (n : Int)), some (polD p), some (ptD a), some (polD r), some (tupI t.1), some (nq t.2), some (polD q), x7]) (by rw [rngD_len]; omega) ?_ (fun i y ρ S3 hy hI => ?_) (fun ρ S3 hI => ?_)
        · refine wv_rng1 ?_
          repeat infer_instance
          exact ⟨_, rfl, rngOk_nat (by omega), ⟨Nat.zero_le _, _, _, k1.trans k2, ⟨⟨cst_wf, cst_bt tb⟩, cst_pk (by decide), cst_len⟩, fun pt hl => cst_vs hl, rfl⟩, fun _ _ _ _ => by rw [Int.toNat_natCast]; exact sqIs_it⟩
        · obtain ⟨_, q, x7, k3, qq, qv, rfl⟩ := hI
          obtain ⟨hi, hye⟩ := rngD_get hy
          rw [Int.zero_add] at hye
          subst hye
          refine ⟨_, rfl, ?_⟩
          unfold L0__law_moved
          simp only [tN, set0, setS]
          repeat infer_instance
          refine w_law_var (by omega) fun S4 k4 => ?_
          repeat infer_instance
          obtain ⟨ga, gb⟩ := getP ha hi
          refine g_ixT (k := i) (by rw [List.getElem?_map, ga]; rfl) ?_
          repeat infer_instance
          refine w_law_const h1 (by omega) fun S5 k5 => ?_
          repeat infer_instance
          have lq := lin_qb (n := n) (k := i) gb
          refine w_padd (L := 12) (M := 9) (lin_pk.kok (by decide)) (lin_bt gb) (few_len (by unfold keysA; rw [List.length_map]; have := lin_len (n := n) (k := i) (a := a.getD i 0); omega)) h1 (by decide) (by decide +kernel) (by have := lin_len (n := n) (k := i) (a := a.getD i 0); omega) (by decide +kernel) fun S6 k6 => ?_
          repeat infer_instance
          obtain ⟨ge, ge0, ge4⟩ := getE te hi
          obtain ⟨m, hm'⟩ : ∃ m : Nat, t.1.getD i 0 = (m : Int) := ⟨(t.1.getD i 0).toNat, by omega⟩
          refine g_ixT (k := i) (by rw [List.getElem?_map, ge]; rfl) ?_
          rw [hm']
          repeat infer_instance
          have m3 : m ≤ 3 := by omega
          refine w_ppow h1 (by omega) (by omega) (fun l hl S' Q' hQ => ?_) fun S7 k7 => ?_
          · have hl3 := pow_all lq (show l ≤ 3 by omega)
            have hlen := hl3.len
            have llen := lq.len
            have pl16 : (prodR (powP n (linP n i (a.getD i 0)) l) (linP n i (a.getD i 0))).length ≤ 8 * 2 := by
              rw [prodR_len]
              exact Nat.mul_le_mul hlen llen
            refine w_pmul hl3 lq (by decide) (few_len (by unfold keysA; rw [List.length_map]; omega)) h1 (by omega) (by decide) (by decide) (by decide +kernel) (by decide +kernel) (by decide +kernel) (by decide) (by decide) (by decide) (by decide +kernel) fun S'' k'' => ?_
            exact hQ S'' k''
          · repeat infer_instance
            have pq := pow_all lq m3
            have qlen := qq.len
            have plen := pq.len
            have e8 : 8 ^ i ≤ 8 ^ 3 := Nat.pow_le_pow_right (by decide) (by omega)
            have e8' : 8 ^ i * 8 ≤ 8 ^ 3 * 8 := Nat.mul_le_mul_right _ e8
            have e8n : 0 < 8 ^ i := Nat.pow_pos (by decide)
            have eL : 12 * 1728 ^ i ≤ 12 * 1728 ^ 3 := Nat.mul_le_mul_left _ (Nat.pow_le_pow_right (by decide) (by omega))
            have eM : 45 * mC ^ i ≤ 45 * mC ^ 3 := Nat.mul_le_mul_left _ (Nat.pow_le_pow_right (by decide) (by omega))
            have pl16 : (prodR q (powP n (linP n i (a.getD i 0)) m)).length ≤ 8 ^ i * 8 := by
              rw [prodR_len]
              exact Nat.mul_le_mul qlen plen
            have qm := (qq.mul pq (by omega)).1
            refine w_pmul qq pq (by omega) (few_len (by unfold keysA; rw [List.length_map]; omega)) h1 (by omega) (Nat.mul_pos (by decide) (Nat.pow_pos (by decide))) (by decide) (Nat.lt_of_le_of_lt (Nat.mul_le_mul_right _ eL) (by decide +kernel)) (Nat.lt_of_le_of_lt (Nat.mul_le_mul eM eL) (by decide +kernel)) (by decide +kernel) (by omega) (by decide) e8n (Nat.lt_of_le_of_lt (Nat.mul_le_mul (Nat.mul_le_mul_right _ (Nat.mul_le_mul_right _ eM)) (Nat.mul_le_mul_right _ eL)) (by decide +kernel)) fun S8 k8 => ?_
            refine ⟨hi, _, _, ((((k3.trans k4).trans k5).trans k6).trans k7).trans k8, ⟨⟨qm.pb.wf, ?_⟩, PK.mono qm.pk (by omega), by rw [Nat.pow_succ]; exact qm.len⟩, fun pt hl => ?_, rfl⟩
            · rw [Nat.pow_succ, Nat.pow_succ, ← Nat.mul_assoc, ← Nat.mul_assoc]
              refine qm.pb.bd.mono ?_
              rw [Nat.mul_assoc]
              exact Nat.mul_le_mul_left _ (Nat.mul_le_mul_left _ (by omega))
            · rw [vs_mul (B := 1 + 7 * i) (B' := 7) hl qq.pk pq.pk (by omega) qq.pb.bd pq.pb.bd, qv pt hl, pow_vs lq hl m3, lin_vs gb hi hl, tv, shP_at hi, hm', Int.toNat_natCast]
        · rw [rngD_len] at hI
          obtain ⟨_, q, x7, k3, qq, qv, rfl⟩ := hI
          exact ⟨q, _, k3, qq, qv, rfl⟩
      · obtain ⟨q, x7, k3, qq, qv, rfl⟩ := hM
        repeat infer_instance
        have e8 : 8 ^ n ≤ 8 ^ 4 := Nat.pow_le_pow_right (by decide) hn
        have qlen := qq.len
        have p32 : 1 ≤ 32768 ^ j := Nat.pow_pos (by decide)
        have IB : BT (12 * 1728 ^ 4) (45 * mC ^ 4 * 32768 ^ j) (r ++ q) := fun u hu => by
          rcases List.mem_append.mp hu with h | h
          · exact rb u h
          · refine ((qq.pb.bd u h).monoL (Nat.mul_dvd_mul_left _ (Nat.pow_dvd_pow _ hn))).mono ?_
            refine Nat.le_trans (Nat.mul_le_mul_left _ (Nat.pow_le_pow_right (by decide) hn)) (Nat.le_mul_of_pos_right _ p32)
        have IK : PK n ((32 : Nat) : Int) (r ++ q) := fun e he => by
          unfold keysA at he
          rw [List.map_append] at he
          rcases List.mem_append.mp he with h | h
          · exact rk e h
          · exact PK.mono qq.pk (by omega) e h
        have Il : (r ++ q).length ≤ (j + 1) * 4096 := by
          rw [List.length_append, Nat.succ_mul]
          omega
        have Il2 : (j + 1) * 4096 ≤ 5 * 4096 := Nat.mul_le_mul_right _ (by omega)
        have eT : 45 * mC ^ 4 * 32768 ^ j ≤ 45 * mC ^ 4 * 32768 ^ 4 := Nat.mul_le_mul_left _ (Nat.pow_le_pow_right (by decide) (by omega))
        obtain ⟨f1, f2, f3, f4⟩ := sumP_facts (pk_kok IK (by decide)) IB
        refine w_padd (pk_kok IK (by decide)) IB (few_len (by unfold keysA; rw [List.length_map]; omega)) h1 (by decide) (by decide +kernel) (by omega) (Nat.lt_of_le_of_lt (Nat.mul_le_mul_right _ (Nat.mul_le_mul_right _ eT)) (by decide +kernel)) fun S4 k4 => ?_
        refine ⟨hj, sumP (r ++ q), _, _, _, _, k3.trans k4, f1.wf, sum_pk IK (by decide) IB, f1.bd.mono ?_, Nat.le_trans f2 Il, fun pt hl => ?_, rfl⟩
        · have e : 32768 ^ (j + 1) = 32768 ^ j * 32768 := _root_.Nat.pow_succ ..
          rw [e, ← Nat.mul_assoc]
          exact Nat.mul_le_mul_left _ (by omega)
        · rw [vs_sum hl IK (by decide) IB, vs_app, rv pt hl, qv pt hl, take_next ht', vs_app, vs_cons]
          show _ = _ + (_ + 0)
          rw [Rat.add_zero]
    · rw [List.length_map, List.take_length] at hI
      obtain ⟨_, r, x4, x5, x6, x7, k1, rw', rk, rb, rl, rv, rfl⟩ := hI
      exact ⟨r, _, _, _, _, k1, rw', rk, rv, rfl⟩
  · obtain ⟨r, x4, x5, x6, x7, k1, rw', rk, rv, rfl⟩ := hM
    repeat infer_instance
    exact k r S1 rw' rk rv k1
end Gn

namespace Gn
open PySem PySem.Spec PyProof.Rows L2 Rf
local macro_rules
  | `(tactic| infer_instance) => `(tactic| with_reducible first
    | apply ws_seq
    | apply ws_ret
    | apply ws_if
    | apply ws_ex
    | apply ws_asg
    | apply ws_par
    | apply ws_dput
    | apply ws_lput
    | apply ws_nil
    | apply ws_retN
    | apply s0
    | apply s1
    | apply s2
    | apply s3
    | apply s4
    | apply s5
    | apply s6
    | apply s7
    | apply s8
    | apply s9
    | apply s10
    | apply s11
    | apply s12
    | apply s13
    | apply s14
    | apply s15
    | apply s16
    | apply s17
    | apply s18
    | apply s19
    | apply s20
    | apply s21
    | apply s22
    | apply s23
    | apply s24
    | apply s25
    | apply wv_op
    | apply wv_un
    | apply wv_bi
    | apply wv_call
    | apply wv_call0
    | apply wv_tup
    | apply wv_lst
    | apply wv_cons
    | apply wv_nil
    | apply wv_T
    | apply wv_tru
    | apply wv_not
    | apply wv_and
    | apply wv_or
    | apply wv_if
    | apply wv_andV
    | apply wv_orV
    | apply wv_yes
    | apply wv_ret
    | apply wv_app
    | apply wv_dget
    | apply wv_dget2
    | apply wv_din
    | apply wv_dct1
    | apply wv_dct0
    | apply wv_sx2
    | apply wv_sxH
    | apply wv_sxL
    | apply exI
    | apply v0
    | apply v1
    | apply v2
    | apply v3
    | apply v4
    | apply v5
    | apply v6
    | apply v7
    | apply v8
    | apply v9
    | apply v10
    | apply v11
    | apply v12
    | apply v13
    | apply v14
    | apply v15
    | apply v16
    | apply v17
    | apply v18
    | apply v19
    | apply v20
    | apply v21
    | apply v22
    | apply v23
    | apply v24
    | apply v25
    | apply g_add
    | apply g_sub
    | apply g_iadd
    | apply g_isub
    | apply g_lt
    | apply g_le
    | apply g_gt
    | apply g_ge
    | apply g_eq
    | apply g_ne
    | apply g_neg
    | apply g_not
    | apply g_gcd
    | apply g_abs
    | apply g_int
    | apply g_intb
    | apply g_nq0
    | apply g_nq1
    | apply g_ix0
    | apply g_ix1
    | apply g_ix2
    | apply g_lenT
    | apply exT
    | apply exTru
    | apply ifT
    | apply ifF
    | apply ifT'
    | apply ifF'
    | apply nf1
    | apply nf2
    | apply nf3
    | apply nf4
    | apply len0
    | apply len1
    | apply len2
    | apply len3
    | apply len4
    )
/-! ### comprehensions with two for -/
theorem loopC_inv2 {t : Tgt} {c : M Bool} {el : M D} {sq : Sq} {xs : List D} {ρ0 : Rf.Env} {n0 : Nat} {S1 : Sto} {f : D → Option D} (hn : S1.length ≤ n0) (hsq : ∀ S, Keep S1 S → SqIs sq xs S) (hc : c = mYes)
    (hb : ∀ x ∈ xs, ∀ S, Keep S1 S → ∃ ρ1, t x ρ0 S = some ρ1 ∧ WV (el ρ1 S) fun d S3 => Keep S S3 ∧ f x = some d) :
    ∀ (n k : Nat) (S : Sto) (acc : List D), xs.length - k < n → k ≤ xs.length → acc.length + (xs.length - k) < 1000000 → Keep S1 S → S[n0]? = some (.lst acc) → ∃ S', loopC t c el sq ρ0 n0 n k S = some S' ∧ Keep S1 S' ∧ S'[n0]? = some (.lst (acc ++ (xs.drop k).filterMap f))
  | 0, k, S, acc, h, _, _, _, _ => absurd h (by omega)
  | n + 1, k, S, acc, h, hk, ha, kp, hs => by
    subst hc
    rw [loopC, hsq S kp k]
    by_cases hlt : k < xs.length
    · have hx : xs[k]? = some xs[k] := List.getElem?_eq_getElem hlt
      rw [hx]
      obtain ⟨ρ1, e1, d, S3, e3, k3, e4⟩ := hb xs[k] (List.getElem_mem hlt) S kp
      dsimp only
      rw [e1]
      have hs3 := k3 _ _ hs
      dsimp only
      rw [show mYes ρ1 S = some (.val true S) from rfl]
      dsimp only
      rw [e3]
      dsimp only
      rw [hs3]
      dsimp only
      rw [if_pos (by omega), List.drop_eq_getElem_cons hlt, List.filterMap_cons, e4]
      obtain ⟨S', a1, a2, a3⟩ := loopC_inv2 hn hsq rfl hb n (k + 1) (S3.set n0 (.lst (acc ++ [d]))) (acc ++ [d]) (by omega) hlt (by rw [List.length_append, List.length_singleton]; omega) ((kp.trans k3).put hn _) (List.getElem?_set_self (lt_of_get hs3))
      refine ⟨S', a1, a2, ?_⟩
      rw [a3, List.append_assoc, List.singleton_append]
    · have hx : xs[k]? = none := List.getElem?_eq_none (by omega)
      rw [hx, List.drop_eq_nil_of_le (by omega), List.filterMap_nil, List.append_nil]
      exact ⟨S, rfl, kp, hs⟩
theorem loopC2_inv {vs1 : List Nat} {t t1 : Tgt} {c c1 : M Bool} {it1 : M Sq} {el : M D} {sq : Sq} {xs : List D} {ρ0 : Rf.Env} {n0 : Nat} {S1 : Sto} {ysOf : D → List D} {f : D → D → Option D} (hn : S1.length ≤ n0) (hsq : ∀ S, Keep S1 S → SqIs sq xs S) (hc : c = mYes) (hc1 : c1 = mYes)
    (hb : ∀ x ∈ xs, ∀ S, Keep S1 S → ∃ ρ1 sq1, t x ρ0 S = some ρ1 ∧ it1 ρ1 S = some (.val sq1 S) ∧ (ysOf x).length < 900 ∧ (∀ S, Keep S1 S → SqIs sq1 (ysOf x) S) ∧
      ∀ y ∈ ysOf x, ∀ S, Keep S1 S → ∃ ρ2, t1 y (wipeE ρ1 vs1) S = some ρ2 ∧ WV (el ρ2 S) fun d S3 => Keep S S3 ∧ f x y = some d) :
    ∀ (n k : Nat) (S : Sto) (acc : List D), xs.length - k < n → k ≤ xs.length → acc.length + 1000 * (xs.length - k) < 1000000 → Keep S1 S → S[n0]? = some (.lst acc) → ∃ S', loopC2 vs1 t c it1 t1 c1 el sq ρ0 n0 n k S = some S' ∧ Keep S1 S' ∧ S'[n0]? = some (.lst (acc ++ (xs.drop k).flatMap fun x => (ysOf x).filterMap (f x)))
  | 0, k, S, acc, h, _, _, _, _ => absurd h (by omega)
  | n + 1, k, S, acc, h, hk, ha, kp, hs => by
    subst hc
    rw [loopC2, hsq S kp k]
    by_cases hlt : k < xs.length
    · have hx : xs[k]? = some xs[k] := List.getElem?_eq_getElem hlt
      rw [hx]
      obtain ⟨ρ1, sq1, e1, e2, e3, e4, e5⟩ := hb xs[k] (List.getElem_mem hlt) S kp
      dsimp only
      rw [e1]
      dsimp only
      rw [show mYes ρ1 S = some (.val true S) from rfl]
      dsimp only
      rw [e2]
      dsimp only
      obtain ⟨S3, a1, a2, a3⟩ := loopC_inv2 (f := f xs[k]) hn e4 hc1 e5 fuel 0 S acc (lt_fuel (k := 20) (Nat.lt_of_le_of_lt (Nat.sub_le _ _) (Nat.lt_trans e3 (by decide))) (by omega)) (Nat.zero_le _) (by omega) kp hs
      rw [a1]
      dsimp only
      rw [List.drop_zero] at a3
      obtain ⟨S', b1, b2, b3⟩ := loopC2_inv hn hsq rfl hc1 hb n (k + 1) S3 (acc ++ (ysOf xs[k]).filterMap (f xs[k])) (by omega) hlt (by
        rw [List.length_append]
        have := List.length_filterMap_le (f xs[k]) (ysOf xs[k])
        omega) a2 a3
      refine ⟨S', b1, b2, ?_⟩
      rw [b3, List.drop_eq_getElem_cons hlt, List.flatMap_cons, List.append_assoc]
    · have hx : xs[k]? = none := List.getElem?_eq_none (by omega)
      rw [hx, List.drop_eq_nil_of_le (by omega), List.flatMap_nil, List.append_nil]
      exact ⟨S, rfl, kp, hs⟩
theorem wv_lc2 {vs vs1 : List Nat} {t t1 : Tgt} {it it1 : M Sq} {el : M D} {ρ : Rf.Env} {S : Sto} {Q : D → Sto → Prop} (xs : List D) (ysOf : D → List D) (f : D → D → Option D) (hl : xs.length < 900)
    (h : WV (it ρ S) fun sq S1 => (∀ S, Keep S1 S → SqIs sq xs S) ∧
      (∀ x ∈ xs, ∀ S, Keep S1 S → ∃ ρ1 sq1, t x (wipeE ρ vs) S = some ρ1 ∧ it1 ρ1 S = some (.val sq1 S) ∧ (ysOf x).length < 900 ∧ (∀ S, Keep S1 S → SqIs sq1 (ysOf x) S) ∧
        ∀ y ∈ ysOf x, ∀ S, Keep S1 S → ∃ ρ2, t1 y (wipeE ρ1 vs1) S = some ρ2 ∧ WV (el ρ2 S) fun d S3 => Keep S S3 ∧ f x y = some d) ∧
      ∀ i S2, Keep S1 S2 → S1.length ≤ i → S2[i]? = some (.lst (xs.flatMap fun x => (ysOf x).filterMap (f x))) → Q (.ref i) S2) : WV (mLc2 vs vs1 t it mYes t1 it1 mYes el ρ S) Q := by
  refine wv_b (h.imp fun sq S1 h1 => ?_)
  obtain ⟨a1, a2, a3⟩ := h1
  obtain ⟨S', b1, b2, b3⟩ := loopC2_inv (S1 := S1) (vs1 := vs1) (ρ0 := wipeE ρ vs) (Nat.le_refl _) a1 rfl rfl a2 fuel 0 (S1 ++ [.lst []]) [] (lt_fuel (k := 20) (Nat.lt_of_le_of_lt (Nat.sub_le _ _) (Nat.lt_trans hl (by decide))) (by omega)) (Nat.zero_le _) (by show 0 + _ < _; omega) (Keep.app _ _) get_new
  refine ⟨.ref S1.length, S', by rw [b1], a3 _ _ b2 (Nat.le_refl _) ?_⟩
  rw [b3, List.drop_zero, List.nil_append]
/-! ### a comprehension whose items are new lists -/
theorem loopC_lst {t : Tgt} {el : M D} {sq : Sq} {xs : List D} {ρ0 : Rf.Env} {n0 : Nat} {S1 : Sto} {g : D → List D} (hn : n0 = S1.length) (hl : xs.length < 1000000) (hsq : ∀ S, Keep S1 S → SqIs sq xs S)
    (hb : ∀ x ∈ xs, ∀ S, Keep S1 S → ∃ ρ1, t x ρ0 S = some ρ1 ∧ WV (el ρ1 S) fun d S3 => Keep S S3 ∧ ∃ i, d = .ref i ∧ S.length ≤ i ∧ S3[i]? = some (.lst (g x))) :
    ∀ (n k : Nat) (S : Sto) (acc : List D), xs.length - k < n → k ≤ xs.length → acc.length = k → Keep S1 S → S[n0]? = some (.lst acc) → (∀ (i : Nat) (x : D), i < k → xs[i]? = some x → ∃ j, acc[i]? = some (.ref j) ∧ n0 < j ∧ S[j]? = some (.lst (g x))) →
      ∃ S' ys, loopC t mYes el sq ρ0 n0 n k S = some S' ∧ Keep S1 S' ∧ S'[n0]? = some (.lst ys) ∧ ys.length = xs.length ∧ ∀ (i : Nat) (x : D), xs[i]? = some x → ∃ j, ys[i]? = some (.ref j) ∧ S'[j]? = some (.lst (g x))
  | 0, k, S, acc, h, _, _, _, _, _ => absurd h (by omega)
  | n + 1, k, S, acc, h, hk, ha, kp, hs, hP => by
    rw [loopC, hsq S kp k]
    by_cases hlt : k < xs.length
    · have hx : xs[k]? = some xs[k] := List.getElem?_eq_getElem hlt
      rw [hx]
      obtain ⟨ρ1, e1, d, S3, e3, k3, id, rfl, hid, hS3⟩ := hb xs[k] (List.getElem_mem hlt) S kp
      have hs3 := k3 _ _ hs
      have hn0 : n0 < S.length := lt_of_get hs
      have ey : mYes ρ1 S = some (.val true S) := rfl
      dsimp only
      rw [e1]
      dsimp only
      rw [ey]
      dsimp only
      rw [e3]
      dsimp only
      rw [hs3]
      dsimp only
      rw [if_pos (by omega)]
      refine loopC_lst hn hl hsq hb n (k + 1) (S3.set n0 (.lst (acc ++ [.ref id]))) (acc ++ [.ref id]) (by omega) hlt (by rw [List.length_append, List.length_singleton, ha]) ((kp.trans k3).put (by omega) _) (List.getElem?_set_self (lt_of_get hs3)) fun i x hi h1 => ?_
      by_cases c : i < k
      · obtain ⟨j, b1, b2, b3⟩ := hP i x c h1
        exact ⟨j, by rw [List.getElem?_append_left (by omega)]; exact b1, b2, by rw [List.getElem?_set_ne (by omega)]; exact k3 _ _ b3⟩
      · have hi : i = k := by omega
        subst hi
        rw [hx] at h1
        cases h1
        exact ⟨id, by rw [List.getElem?_append_right (by omega), ha, Nat.sub_self]; rfl, by omega, by rw [List.getElem?_set_ne (by omega)]; exact hS3⟩
    · have hx : xs[k]? = none := List.getElem?_eq_none (by omega)
      rw [hx]
      refine ⟨S, acc, rfl, kp, hs, by omega, fun i x h1 => ?_⟩
      have : i < xs.length := by
        by_cases c : i < xs.length
        · exact c
        · rw [List.getElem?_eq_none (by omega)] at h1; cases h1
      obtain ⟨j, b1, b2, b3⟩ := hP i x (by omega) h1
      exact ⟨j, b1, b3⟩
theorem wv_lcL {vs : List Nat} {t : Tgt} {it : M Sq} {el : M D} {Q : D → Sto → Prop} {ρ : Rf.Env} {S : Sto} (xs : List D) (g : D → List D) (hl : xs.length < 1000000)
    (h : WV (it ρ S) fun sq S1 => (∀ S, Keep S1 S → SqIs sq xs S) ∧
      (∀ x ∈ xs, ∀ S, Keep S1 S → ∃ ρ1, t x (wipeE ρ vs) S = some ρ1 ∧ WV (el ρ1 S) fun d S3 => Keep S S3 ∧ ∃ i, d = .ref i ∧ S.length ≤ i ∧ S3[i]? = some (.lst (g x))) ∧
      ∀ i S2 ys, Keep S1 S2 → S1.length ≤ i → S2[i]? = some (.lst ys) → ys.length = xs.length → (∀ (i : Nat) (x : D), xs[i]? = some x → ∃ j, ys[i]? = some (.ref j) ∧ S2[j]? = some (.lst (g x))) → Q (.ref i) S2) : WV (mLc vs t it mYes el ρ S) Q := by
  refine wv_b (h.imp fun sq S1 h1 => ?_)
  obtain ⟨a1, a2, a3⟩ := h1
  obtain ⟨S', ys, b1, b2, b3, b4, b5⟩ := loopC_lst (S1 := S1) (g := g) (ρ0 := wipeE ρ vs) rfl hl a1 a2 fuel 0 (S1 ++ [.lst []]) [] (lt_fuel (k := 20) (Nat.lt_of_le_of_lt (Nat.sub_le _ _) (Nat.lt_trans hl (by decide))) (by omega)) (Nat.zero_le _) rfl (Keep.app _ _) get_new (fun i x h => absurd h (by omega))
  exact ⟨.ref S1.length, S', by rw [b1], a3 _ _ ys b2 (Nat.le_refl _) b3 b4 b5⟩
/-! ### enumerate -/
def enL (xs : List D) : List D := xs.mapIdx fun i x => .tup [.int (i : Nat), x]
theorem enL_len {xs : List D} : (enL xs).length = xs.length := by unfold enL; rw [List.length_mapIdx]
theorem enL_get {xs : List D} {i : Nat} : (enL xs)[i]? = xs[i]?.map fun x => .tup [.int (i : Nat), x] := by unfold enL; rw [List.getElem?_mapIdx]
theorem sqIs_enm {p : Sq} {xs : List D} {S : Sto} (h : SqIs p xs S) : SqIs (enmQ p) (enL xs) S := fun i => by
  unfold enmQ
  rw [h i, enL_get]
  cases xs[i]? with
  | none => rfl
  | some x => rfl
theorem wv_enmA {ms : M (List D)} {ρ : Rf.Env} {S : Sto} {Q : Sq → Sto → Prop} (h : WV (ms ρ S) fun as S1 => ∃ a p, as = [a] ∧ sqOf S1 a = some p ∧ Q (enmQ p) S1) : WV (mEnmA ms ρ S) Q := by
  refine wv_b (h.imp fun as S1 h1 => ?_)
  obtain ⟨a, p, rfl, e2, k⟩ := h1
  exact ⟨_, S1, by dsimp only; rw [e2], k⟩
/-! ### == of two numbers -/
theorem pd_nq (q : Rat) (S : Sto) : pdOf S 60 (nq q) = some (.tuple [.int q.num, .int (q.den : Int)]) := rfl
theorem shaped_pair (a b : Int) : SeqAt.shaped (.tuple [.int a, .int b]) = true := rfl
theorem eqv_pair (a b c d : Int) : PyData.eqv (.tuple [.int a, .int b]) (.tuple [.int c, .int d]) = (a == c && (b == d && true)) := rfl
theorem g_eqAq {x y : Rat} {S : Sto} {Q : D → Sto → Prop} (q : Q (.bl (decide (x = y))) S) : WG (gEqA (nq x) (nq y) S) Q := by
  refine ⟨_, _, ?_, q⟩
  have e0 : gEq (nq x) (nq y) S = none := rfl
  have e1 : gEqD false (nq x) (nq y) S = some (.bl (decide (x = y)), S) := by
    unfold gEqD
    rw [pd_nq, pd_nq]
    dsimp only
    rw [shaped_pair, shaped_pair, eqv_pair]
    simp only [Bool.and_self, if_true, Bool.and_true, Bool.false_eq_true, if_false]
    congr 3
    by_cases c : x = y
    · subst c
      simp
    · rw [decide_eq_false c]
      rw [Bool.and_eq_false_iff]
      by_cases c1 : x.num = y.num
      · right
        refine beq_eq_false_iff_ne.mpr fun z => c (Rat.ext c1 (by omega))
      · left
        exact beq_eq_false_iff_ne.mpr c1
  unfold gEqA orG
  rw [e0]
  dsimp only
  unfold gEqX orG
  rw [e1]
end Gn

namespace Gn
open PySem PySem.Spec PyProof.Rows L2 Rf
local macro_rules
  | `(tactic| infer_instance) => `(tactic| with_reducible first
    | apply ws_seq
    | apply ws_ret
    | apply ws_if
    | apply ws_ex
    | apply ws_asg
    | apply ws_par
    | apply ws_dput
    | apply ws_lput
    | apply ws_nil
    | apply ws_retN
    | apply s0
    | apply s1
    | apply s2
    | apply s3
    | apply s4
    | apply s5
    | apply s6
    | apply s7
    | apply s8
    | apply s9
    | apply s10
    | apply s11
    | apply s12
    | apply s13
    | apply s14
    | apply s15
    | apply s16
    | apply s17
    | apply s18
    | apply s19
    | apply s20
    | apply s21
    | apply s22
    | apply s23
    | apply s24
    | apply s25
    | apply wv_op
    | apply wv_un
    | apply wv_bi
    | apply wv_call
    | apply wv_call0
    | apply wv_tup
    | apply wv_lst
    | apply wv_cons
    | apply wv_nil
    | apply wv_T
    | apply wv_tru
    | apply wv_not
    | apply wv_and
    | apply wv_or
    | apply wv_if
    | apply wv_andV
    | apply wv_orV
    | apply wv_yes
    | apply wv_ret
    | apply wv_app
    | apply wv_dget
    | apply wv_dget2
    | apply wv_din
    | apply wv_dct1
    | apply wv_dct0
    | apply wv_sx2
    | apply wv_sxH
    | apply wv_sxL
    | apply exI
    | apply v0
    | apply v1
    | apply v2
    | apply v3
    | apply v4
    | apply v5
    | apply v6
    | apply v7
    | apply v8
    | apply v9
    | apply v10
    | apply v11
    | apply v12
    | apply v13
    | apply v14
    | apply v15
    | apply v16
    | apply v17
    | apply v18
    | apply v19
    | apply v20
    | apply v21
    | apply v22
    | apply v23
    | apply v24
    | apply v25
    | apply g_add
    | apply g_sub
    | apply g_iadd
    | apply g_isub
    | apply g_lt
    | apply g_le
    | apply g_gt
    | apply g_ge
    | apply g_eq
    | apply g_ne
    | apply g_neg
    | apply g_not
    | apply g_gcd
    | apply g_abs
    | apply g_int
    | apply g_intb
    | apply g_nq0
    | apply g_nq1
    | apply g_ix0
    | apply g_ix1
    | apply g_ix2
    | apply g_lenT
    | apply exT
    | apply exTru
    | apply ifT
    | apply ifF
    | apply ifT'
    | apply ifF'
    | apply nf1
    | apply nf2
    | apply nf3
    | apply nf4
    | apply len0
    | apply len1
    | apply len2
    | apply len3
    | apply len4
    )
theorem RB.mono {L M N L' M' N' n : Nat} {h : Nat → Rat} (r : RB L M N n h) (hL : L ∣ L') (hM : M ≤ M') (hN : N ≤ N') : RB L' M' N' n h := ⟨Nat.le_trans r.le hN, r.end_, fun i hi => ((r.bd i hi).monoL hL).mono hM⟩
theorem bq_zero {L M : Nat} : BQ L M 0 := ⟨by decide, by exact Int.one_dvd _, Nat.zero_le _⟩
theorem ixN_nat {n i : Nat} (h : i < n) : ixN n (i : Int) = some i := by
  unfold ixN
  rw [if_pos (by omega), if_pos (by omega), Int.toNat_natCast]
end Gn

namespace Gn
open PySem PySem.Spec PyProof.Rows L2 Rf
local macro_rules
  | `(tactic| infer_instance) => `(tactic| with_reducible first
    | apply ws_seq
    | apply ws_ret
    | apply ws_if
    | apply ws_ex
    | apply ws_asg
    | apply ws_par
    | apply ws_dput
    | apply ws_lput
    | apply ws_nil
    | apply ws_retN
    | apply s0
    | apply s1
    | apply s2
    | apply s3
    | apply s4
    | apply s5
    | apply s6
    | apply s7
    | apply s8
    | apply s9
    | apply s10
    | apply s11
    | apply s12
    | apply s13
    | apply s14
    | apply s15
    | apply s16
    | apply s17
    | apply s18
    | apply s19
    | apply s20
    | apply s21
    | apply s22
    | apply s23
    | apply s24
    | apply s25
    | apply wv_op
    | apply wv_un
    | apply wv_bi
    | apply wv_call
    | apply wv_call0
    | apply wv_tup
    | apply wv_lst
    | apply wv_cons
    | apply wv_nil
    | apply wv_T
    | apply wv_tru
    | apply wv_not
    | apply wv_and
    | apply wv_or
    | apply wv_if
    | apply wv_andV
    | apply wv_orV
    | apply wv_yes
    | apply wv_ret
    | apply wv_app
    | apply wv_dget
    | apply wv_dget2
    | apply wv_din
    | apply wv_dct1
    | apply wv_dct0
    | apply wv_sx2
    | apply wv_sxH
    | apply wv_sxL
    | apply exI
    | apply v0
    | apply v1
    | apply v2
    | apply v3
    | apply v4
    | apply v5
    | apply v6
    | apply v7
    | apply v8
    | apply v9
    | apply v10
    | apply v11
    | apply v12
    | apply v13
    | apply v14
    | apply v15
    | apply v16
    | apply v17
    | apply v18
    | apply v19
    | apply v20
    | apply v21
    | apply v22
    | apply v23
    | apply v24
    | apply v25
    | apply g_add
    | apply g_sub
    | apply g_iadd
    | apply g_isub
    | apply g_lt
    | apply g_le
    | apply g_gt
    | apply g_ge
    | apply g_eq
    | apply g_ne
    | apply g_neg
    | apply g_not
    | apply g_gcd
    | apply g_abs
    | apply g_int
    | apply g_intb
    | apply g_nq0
    | apply g_nq1
    | apply g_ix0
    | apply g_ix1
    | apply g_ix2
    | apply g_lenT
    | apply exT
    | apply exTru
    | apply ifT
    | apply ifF
    | apply ifT'
    | apply ifF'
    | apply nf1
    | apply nf2
    | apply nf3
    | apply nf4
    | apply len0
    | apply len1
    | apply len2
    | apply len3
    | apply len4
    )
/-! ### rows of whole numbers -/
abbrev rowZ (n : Nat) (h : Nat → Int) : List D := rowG n fun i => .int (h i)
theorem wv_lcZ {vs : List Nat} {v : Nat} {el : M D} {ρ : Rf.Env} {S : Sto} {Q : D → Sto → Prop} {m : M D} {id n : Nat} {g : Nat → Int} (f : Int → Int) (hn : n < 1000) (hm : m ρ S = some (.val (.ref id) S)) (hs : S[id]? = some (.lst (rowZ n g)))
    (hb : ∀ j, j < n → ∀ S2, Keep S S2 → WV (el ((wipeE ρ vs).set v (some (.int (g j)))) S2) fun d S3 => Keep S2 S3 ∧ d = .int (f (g j)))
    (q : ∀ i S2, Keep S S2 → S.length ≤ i → S2[i]? = some (.lst (rowZ n fun j => f (g j))) → Q (.ref i) S2) : WV (mLc vs (tN v) (mSeq m) mYes el ρ S) Q := by
  refine wv_lc (rowZ n g) (fun d => match d with
    | .int c => some (.int (f c))
    | _ => none) (by rw [rowG_len]; omega) ?_
  refine wv_seq (wv_of hm ⟨sqRef id, by unfold sqOf; dsimp only; rw [hs], fun S1 k1 => sqIs_ref (k1 _ _ hs), fun x hx S2 k2 => ?_, fun i S2 k2 hi hr => q i S2 k2 hi ?_⟩)
  · obtain ⟨j, hj, rfl⟩ := List.mem_map.mp hx
    refine ⟨_, rfl, wv_yes ⟨Keep.refl _, fun _ => ?_, fun z => nomatch z⟩⟩
    exact (hb j (List.mem_range.mp hj) S2 k2).imp fun d S3 h => ⟨h.1, by rw [h.2]⟩
  · rw [hr]
    unfold rowZ rowG
    rw [List.filterMap_map]
    congr 2
    exact filterMap_map_mem fun a _ => rfl
theorem sq_ref {id : Nat} {xs : List D} {S : Sto} (hs : S[id]? = some (.lst xs)) : sqOf S (.ref id) = some (sqRef id) := by unfold sqOf; dsimp only; rw [hs]
theorem wq_dvd {b : Nat} {x : Rat} (h : x.den ∣ b) : ((wq (b : Int) x : Int) : Rat) = x * ((b : Int) : Rat) := by
  have e : wq (b : Int) x * (x.den : Int) = x.num * (b : Int) := by
    unfold wq
    rw [fdiv_nat, Int.mul_assoc, Int.ediv_mul_cancel (Int.ofNat_dvd.mpr h)]
  have hd : ((x.den : Int) : Rat) ≠ 0 := fun z => den_ne x (by exact_mod_cast z)
  have ex : x * ((x.den : Int) : Rat) = ((x.num : Int) : Rat) := by
    have e1 := Rat.num_divInt_den x
    rw [Rat.divInt_eq_div] at e1
    grind
  have e2 : ((wq (b : Int) x : Int) : Rat) * ((x.den : Int) : Rat) = ((x.num : Int) : Rat) * ((b : Int) : Rat) := by exact_mod_cast e
  grind
theorem wq_sz {b : Nat} {x : Rat} {L M : Nat} (hb : b ≤ L) (h : BQ L M x) (hd : x.den ∣ b) (hb0 : 0 < b) : (wq (b : Int) x).natAbs ≤ M * L := by
  have e : wq (b : Int) x * (x.den : Int) = x.num * (b : Int) := by
    unfold wq
    rw [fdiv_nat, Int.mul_assoc, Int.ediv_mul_cancel (Int.ofNat_dvd.mpr hd)]
  have e2 := congrArg Int.natAbs e
  rw [Int.natAbs_mul, Int.natAbs_mul, Int.natAbs_natCast, Int.natAbs_natCast] at e2
  have h1 : x.num.natAbs ≤ M * x.den := by
    have : x.num.natAbs ≤ M * ((x.den : Int)).natAbs := h.bd
    rw [Int.natAbs_natCast] at this
    exact this
  have h2 : (wq (b : Int) x).natAbs * x.den ≤ (M * b) * x.den := by
    rw [e2, Nat.mul_right_comm]
    exact Nat.mul_le_mul_right _ h1
  have h3 := Nat.le_of_mul_le_mul_right h2 x.den_pos
  exact Nat.le_trans h3 (Nat.mul_le_mul_left _ hb)
/-- what is known of the whole numbers of a row: h i * b = c * f i -/
structure PF (n : Nat) (h : Nat → Rat) (f : Nat → Int) (c b : Int) : Prop where
  b0 : 0 < b
  c0 : c ≠ 0
  eq : ∀ i, i < n → h i * (b : Rat) = (c : Rat) * (f i : Rat)
  top : f (n - 1) ≠ 0
  sf : ∀ i, i < n → szI 30 (f i)
  sc : szI 30 c
  sb : szI 30 b
end Gn

namespace Gn
open PySem PySem.Spec PyProof.Rows L2 Rf
local macro_rules
  | `(tactic| infer_instance) => `(tactic| with_reducible first
    | apply ws_seq
    | apply ws_ret
    | apply ws_if
    | apply ws_ex
    | apply ws_asg
    | apply ws_par
    | apply ws_dput
    | apply ws_lput
    | apply ws_nil
    | apply ws_retN
    | apply s0
    | apply s1
    | apply s2
    | apply s3
    | apply s4
    | apply s5
    | apply s6
    | apply s7
    | apply s8
    | apply s9
    | apply s10
    | apply s11
    | apply s12
    | apply s13
    | apply s14
    | apply s15
    | apply s16
    | apply s17
    | apply s18
    | apply s19
    | apply s20
    | apply s21
    | apply s22
    | apply s23
    | apply s24
    | apply s25
    | apply wv_op
    | apply wv_un
    | apply wv_bi
    | apply wv_call
    | apply wv_call0
    | apply wv_tup
    | apply wv_lst
    | apply wv_cons
    | apply wv_nil
    | apply wv_T
    | apply wv_tru
    | apply wv_not
    | apply wv_and
    | apply wv_or
    | apply wv_if
    | apply wv_andV
    | apply wv_orV
    | apply wv_yes
    | apply wv_ret
    | apply wv_app
    | apply wv_dget
    | apply wv_dget2
    | apply wv_din
    | apply wv_dct1
    | apply wv_dct0
    | apply wv_sx2
    | apply wv_sxH
    | apply wv_sxL
    | apply exI
    | apply v0
    | apply v1
    | apply v2
    | apply v3
    | apply v4
    | apply v5
    | apply v6
    | apply v7
    | apply v8
    | apply v9
    | apply v10
    | apply v11
    | apply v12
    | apply v13
    | apply v14
    | apply v15
    | apply v16
    | apply v17
    | apply v18
    | apply v19
    | apply v20
    | apply v21
    | apply v22
    | apply v23
    | apply v24
    | apply v25
    | apply g_add
    | apply g_sub
    | apply g_iadd
    | apply g_isub
    | apply g_lt
    | apply g_le
    | apply g_gt
    | apply g_ge
    | apply g_eq
    | apply g_ne
    | apply g_neg
    | apply g_not
    | apply g_gcd
    | apply g_abs
    | apply g_int
    | apply g_intb
    | apply g_nq0
    | apply g_nq1
    | apply g_ix0
    | apply g_ix1
    | apply g_ix2
    | apply g_lenT
    | apply exT
    | apply exTru
    | apply ifT
    | apply ifF
    | apply ifT'
    | apply ifF'
    | apply nf1
    | apply nf2
    | apply nf3
    | apply nf4
    | apply len0
    | apply len1
    | apply len2
    | apply len3
    | apply len4
    )
/-! ### numbers of two whole numbers, of any sign -/
theorem w_number2 {a b : Int} {n : Nat} (hb0 : b ≠ 0) (hb : szI n b) (h0 : 0 < n) (hn : n ≤ 9000) {S : Sto} {Q : D → Sto → Prop} (k : Q (nq (Rat.divInt a b)) S) : WV (F_number [.int a, .int b] S) Q := by
  have sg : szI n ((a.natAbs.gcd b.natAbs : Nat) : Int) := hb.le (Nat.le_of_dvd (by omega) (Nat.gcd_dvd_right _ _))
  have g1 : (a.natAbs.gcd b.natAbs : Nat) ≠ 0 := Nat.ne_of_gt (gcd_pos_r (by omega))
  unfold F_number m_number
  refine wfn [some (.int a), some (.int b), none] rfl ?_
  repeat infer_instance
  rw [decide_eq_false hb0]
  refine ⟨fun z => (nomatch z), fun _ => ws_nil ?_⟩
  repeat infer_instance
  by_cases c : b < 0
  · rw [decide_eq_true c]
    refine ⟨fun _ => ?_, fun z => nomatch z⟩
    obtain ⟨p1, p2⟩ := frac_neg (a := a) c
    have n1 : ∀ x : Int, x.fdiv (-((a.natAbs.gcd b.natAbs : Nat) : Int)) = (-x) / ((a.natAbs.gcd b.natAbs : Nat) : Int) := fun x => by
      have := Int.neg_fdiv_neg (-x) ((a.natAbs.gcd b.natAbs : Nat) : Int)
      rw [Int.neg_neg] at this
      rw [this, fdiv_nat]
    repeat infer_instance
    refine g_div (divOk_sz (by omega) sg.neg) ?_
    repeat infer_instance
    refine g_div (divOk_sz (by omega) sg.neg) ?_
    repeat infer_instance
    rw [n1, n1, nq_of p1.symm p2.symm]
    exact k
  · rw [decide_eq_false c]
    refine ⟨fun z => (nomatch z), fun _ => ws_nil ?_⟩
    obtain ⟨p1, p2⟩ := frac_pos (a := a) (b := b) (by omega)
    repeat infer_instance
    refine g_div (divOk_sz (by omega) sg) ?_
    repeat infer_instance
    refine g_div (divOk_sz (by omega) sg) ?_
    repeat infer_instance
    rw [fdiv_nat, fdiv_nat, nq_of p1.symm p2.symm]
    exact k
theorem dv_zero {x b : Int} (hb : b ≠ 0) : Rat.divInt x b = 0 ↔ x = 0 := by
  have hb' : ((b : Int) : Rat) ≠ 0 := fun z => hb (by exact_mod_cast z)
  rw [Rat.divInt_eq_div]
  constructor
  · intro h
    have : ((x : Int) : Rat) = 0 := by grind
    exact_mod_cast this
  · rintro rfl
    have : ((0 : Int) : Rat) = 0 := rfl
    grind
theorem enL_row {n : Nat} {g : Nat → D} : enL (rowG n g) = rowG n fun i => .tup [.int (i : Nat), g i] := by
  apply List.ext_getElem?
  intro i
  rw [enL_get, rowG_at, rowG_at]
  split <;> rfl
/-! ### division, by steps on whole numbers -/
structure DS where
  r : Nat → Int
  q : Nat → Int
  F : Int
def dstep (g : Nat → Int) (s k : Nat) (t : DS) : DS := if t.r (k + s) = 0 then t else
  ⟨fun i => if k ≤ i ∧ i < k + s then g s * t.r i - t.r (k + s) * g (i - k) else g s * t.r i, fun i => if i = k then t.r (k + s) else g s * t.q i, t.F * g s⟩
def dvS (g f : Nat → Int) (s N : Nat) : Nat → DS
  | 0 => ⟨f, fun _ => 0, 1⟩
  | m + 1 => dstep g s (N - 1 - m) (dvS g f s N m)
structure DZ (nf N m : Nat) (t : DS) : Prop where
  r : ∀ i, i < nf → szI (30 + 31 * m) (t.r i)
  q : ∀ i, i < N → szI (30 + 31 * m) (t.q i)
  F : szI (1 + 30 * m) t.F
  F0 : t.F ≠ 0
  q0 : ∀ i, i < N - m → t.q i = 0
theorem sz0 {n : Nat} : szI n 0 := Nat.pos_of_ne_zero (Nat.pos_iff_ne_zero.mp (Nat.pow_pos (by decide)))
theorem dv_sz {g f : Nat → Int} {nf s N : Nat} (hN : N = nf - s) (hg : ∀ i, i ≤ s → szI 30 (g i)) (hf : ∀ i, i < nf → szI 30 (f i)) (hl : g s ≠ 0) : ∀ m, m ≤ N → DZ nf N m (dvS g f s N m) := fun m => by
  induction m with
  | zero => exact fun _ => ⟨fun i hi => (hf i hi).mono (by omega), fun i _ => sz0, by show (1 : Int).natAbs < 2 ^ 1; decide, by show (1 : Int) ≠ 0; decide, fun i _ => rfl⟩
  | succ m ih =>
    intro hm
    obtain ⟨r, q, F, F0, q0⟩ := ih (by omega)
    show DZ nf N (m + 1) (dstep g s (N - 1 - m) (dvS g f s N m))
    unfold dstep
    split
    · exact ⟨fun i hi => (r i hi).mono (by omega), fun i hi => (q i hi).mono (by omega), F.mono (by omega), F0, fun i hi => q0 i (by omega)⟩
    · rename_i ht
      have top := r (N - 1 - m + s) (by omega)
      have gs := hg s (Nat.le_refl _)
      refine ⟨fun i hi => ?_, fun i hi => ?_, ?_, Int.mul_ne_zero F0 hl, fun i hi => ?_⟩
      · show szI _ (if N - 1 - m ≤ i ∧ i < N - 1 - m + s then _ else _)
        split
        · rename_i c
          have h1 := gs.mul (r i hi)
          have h2 := (top.mul (hg (i - (N - 1 - m)) (by omega))).neg
          have := h1.add h2
          rw [← Int.sub_eq_add_neg] at this
          exact this.mono (by omega)
        · exact (gs.mul (r i hi)).mono (by omega)
      · show szI _ (if i = N - 1 - m then _ else _)
        split
        · exact top.mono (by omega)
        · exact (gs.mul (q i hi)).mono (by omega)
      · exact (F.mul gs).mono (by omega)
      · show (if i = N - 1 - m then _ else g s * (dvS g f s N m).q i) = 0
        rw [if_neg (by omega), q0 i (by omega), Int.mul_zero]
end Gn

namespace Gn
open PySem PySem.Spec PyProof.Rows L2 Rf
local macro_rules
  | `(tactic| infer_instance) => `(tactic| with_reducible first
    | apply ws_seq
    | apply ws_ret
    | apply ws_if
    | apply ws_ex
    | apply ws_asg
    | apply ws_par
    | apply ws_dput
    | apply ws_lput
    | apply ws_nil
    | apply ws_retN
    | apply s0
    | apply s1
    | apply s2
    | apply s3
    | apply s4
    | apply s5
    | apply s6
    | apply s7
    | apply s8
    | apply s9
    | apply s10
    | apply s11
    | apply s12
    | apply s13
    | apply s14
    | apply s15
    | apply s16
    | apply s17
    | apply s18
    | apply s19
    | apply s20
    | apply s21
    | apply s22
    | apply s23
    | apply s24
    | apply s25
    | apply wv_op
    | apply wv_un
    | apply wv_bi
    | apply wv_call
    | apply wv_call0
    | apply wv_tup
    | apply wv_lst
    | apply wv_cons
    | apply wv_nil
    | apply wv_T
    | apply wv_tru
    | apply wv_not
    | apply wv_and
    | apply wv_or
    | apply wv_if
    | apply wv_andV
    | apply wv_orV
    | apply wv_yes
    | apply wv_ret
    | apply wv_app
    | apply wv_dget
    | apply wv_dget2
    | apply wv_din
    | apply wv_dct1
    | apply wv_dct0
    | apply wv_sx2
    | apply wv_sxH
    | apply wv_sxL
    | apply exI
    | apply v0
    | apply v1
    | apply v2
    | apply v3
    | apply v4
    | apply v5
    | apply v6
    | apply v7
    | apply v8
    | apply v9
    | apply v10
    | apply v11
    | apply v12
    | apply v13
    | apply v14
    | apply v15
    | apply v16
    | apply v17
    | apply v18
    | apply v19
    | apply v20
    | apply v21
    | apply v22
    | apply v23
    | apply v24
    | apply v25
    | apply g_add
    | apply g_sub
    | apply g_iadd
    | apply g_isub
    | apply g_lt
    | apply g_le
    | apply g_gt
    | apply g_ge
    | apply g_eq
    | apply g_ne
    | apply g_neg
    | apply g_not
    | apply g_gcd
    | apply g_abs
    | apply g_int
    | apply g_intb
    | apply g_nq0
    | apply g_nq1
    | apply g_ix0
    | apply g_ix1
    | apply g_ix2
    | apply g_lenT
    | apply exT
    | apply exTru
    | apply ifT
    | apply ifF
    | apply ifT'
    | apply ifF'
    | apply nf1
    | apply nf2
    | apply nf3
    | apply nf4
    | apply len0
    | apply len1
    | apply len2
    | apply len3
    | apply len4
    )
theorem cast_ne {x : Int} (h : x ≠ 0) : (x : Rat) ≠ 0 := fun z => h (by exact_mod_cast z)
theorem cast_pow (x : Int) : ∀ k : Nat, ((x ^ k : Int) : Rat) = (x : Rat) ^ k
  | 0 => rfl
  | k + 1 => by rw [Int.pow_succ, Rat.intCast_mul, cast_pow x k, Rat.pow_succ]
theorem pow_ne {D : Rat} (h : D ≠ 0) : ∀ k : Nat, D ^ k ≠ 0
  | 0 => by rw [Rat.pow_zero]; decide
  | k + 1 => by
    rw [Rat.pow_succ]
    have := pow_ne h k
    grind
def wRow (h : Nat → Rat) (x : Rat) (b top : Nat) : Nat → Int := fun e => wq (b : Int) (h e) * (x.den : Int) ^ (top - e)
def mvI (h : Nat → Rat) (x : Rat) (b top : Nat) : Nat → Int := stI (wRow h x b top) x.num top top
def mvH (h : Nat → Rat) (x : Rat) (b top : Nat) : Nat → Rat := fun e => Rat.divInt (mvI h x b top e) ((b : Int) * (x.den : Int) ^ (top - e))
theorem mv_ev {h : Nat → Rat} {x : Rat} {b top : Nat} (hb : 0 < b) (hd : ∀ i, i ≤ top → (h i).den ∣ b) (y : Rat) : hr (mvH h x b top) y 0 (top + 1) = hr h (y + x) 0 (top + 1) := by
  have D0 := cast_ne (den_ne x)
  have K0 := cast_ne (show (b : Int) ≠ 0 by omega)
  have ex : x * ((x.den : Int) : Rat) = ((x.num : Int) : Rat) := by
    have e1 := Rat.num_divInt_den x
    rw [Rat.divInt_eq_div] at e1
    grind
  have A := hr_scale (w := fun e => ((wRow h x b top e : Int) : Rat)) (h := h) (K := ((b : Int) : Rat)) (D := ((x.den : Int) : Rat)) (u := y + x) (top := top) (s := 0) (c := top + 1) (by omega) fun e _ h2 => by
    show ((wRow h x b top e : Int) : Rat) = _
    unfold wRow
    rw [Rat.intCast_mul, cast_pow, wq_dvd (hd e (by omega)), Rat.mul_assoc]
  have B := hr_scale (w := fun e => ((mvI h x b top e : Int) : Rat)) (h := mvH h x b top) (K := ((b : Int) : Rat)) (D := ((x.den : Int) : Rat)) (u := y) (top := top) (s := 0) (c := top + 1) (by omega) fun e _ h2 => by
    show ((mvI h x b top e : Int) : Rat) = mvH h x b top e * _
    unfold mvH
    rw [Rat.divInt_eq_div, Rat.intCast_mul, cast_pow]
    have := pow_ne D0 (top - e)
    grind
  have C := st_ev (wRow h x b top) x.num top (((x.den : Int) : Rat) * (y + x))
  have e1 : ((x.den : Int) : Rat) * (y + x) - ((x.num : Int) : Rat) = ((x.den : Int) : Rat) * y := by grind
  rw [e1] at C
  have C2 : hr (fun i => ((mvI h x b top i : Int) : Rat)) (((x.den : Int) : Rat) * y) 0 (top + 1) = hr (fun e => ((wRow h x b top e : Int) : Rat)) (((x.den : Int) : Rat) * (y + x)) 0 (top + 1) := C.symm
  rw [A, B] at C2
  have P := pow_ne D0 (top - 0)
  have Q0 : ((b : Int) : Rat) * ((x.den : Int) : Rat) ^ (top - 0) ≠ 0 := by grind
  grind
/-! sizes -/
theorem hr_sz {w : Nat → Int} {a : Int} {n B : Nat} (hw : ∀ i, i < B → szI n (w i)) (ha : szI 4 a) : ∀ {s c : Nat}, s + c ≤ B → szI (n + 5 * c) (hr w a s c)
  | _, 0, _ => by rw [hr]; exact Nat.pos_of_ne_zero (Nat.pos_iff_ne_zero.mp (Nat.pow_pos (by decide)))
  | s, c + 1, hB => by
    rw [hr]
    have := (hw s (by omega)).add (ha.mul (hr_sz hw ha (s := s + 1) (c := c) (by omega)))
    exact this.mono (by omega)
theorem st_sz {w : Nat → Int} {a : Int} {n top : Nat} (hw : ∀ i, i < top + 1 → szI n (w i)) (ha : szI 4 a) : ∀ m i, i < top + 1 → szI (n + 5 * (top + 1) * m) (stI w a top m i)
  | 0, i, hi => (hw i hi).mono (by omega)
  | m + 1, i, hi => by
    show szI _ (syn (stI w a top m) a top m i)
    unfold syn
    have ih := st_sz (top := top) hw ha m
    have e : n + 5 * (top + 1) * (m + 1) = n + 5 * (top + 1) * m + 5 * (top + 1) := by rw [Nat.mul_add, Nat.mul_one, Nat.add_assoc]
    split
    · refine (hr_sz (B := top + 1) ih ha (by omega)).mono ?_
      rw [e]
      have : 5 * (top + 1 - i) ≤ 5 * (top + 1) := Nat.mul_le_mul_left _ (by omega)
      omega
    · exact (ih i hi).mono (by omega)
theorem wq_sz' {b : Nat} {x : Rat} {L M : Nat} (hb : b ≤ L) (h : BQ L M x) (hd : x.den ∣ b) (hb0 : 0 < b) : (wq (b : Int) x).natAbs ≤ M * L := by
  have e : wq (b : Int) x * (x.den : Int) = x.num * (b : Int) := by
    unfold wq
    rw [fdiv_nat, Int.mul_assoc, Int.ediv_mul_cancel (Int.ofNat_dvd.mpr hd)]
  have e2 := congrArg Int.natAbs e
  rw [Int.natAbs_mul, Int.natAbs_mul, Int.natAbs_natCast, Int.natAbs_natCast] at e2
  have h1 : x.num.natAbs ≤ M * x.den := by
    have : x.num.natAbs ≤ M * ((x.den : Int)).natAbs := h.bd
    rw [Int.natAbs_natCast] at this
    exact this
  have h2 : (wq (b : Int) x).natAbs * x.den ≤ (M * b) * x.den := by
    rw [e2, Nat.mul_right_comm]
    exact Nat.mul_le_mul_right _ h1
  exact Nat.le_trans (Nat.le_of_mul_le_mul_right h2 x.den_pos) (Nat.mul_le_mul_left _ hb)
end Gn

namespace Gn
open PySem PySem.Spec PyProof.Rows L2 Rf
local macro_rules
  | `(tactic| infer_instance) => `(tactic| with_reducible first
    | apply ws_seq
    | apply ws_ret
    | apply ws_if
    | apply ws_ex
    | apply ws_asg
    | apply ws_par
    | apply ws_dput
    | apply ws_lput
    | apply ws_nil
    | apply ws_retN
    | apply s0
    | apply s1
    | apply s2
    | apply s3
    | apply s4
    | apply s5
    | apply s6
    | apply s7
    | apply s8
    | apply s9
    | apply s10
    | apply s11
    | apply s12
    | apply s13
    | apply s14
    | apply s15
    | apply s16
    | apply s17
    | apply s18
    | apply s19
    | apply s20
    | apply s21
    | apply s22
    | apply s23
    | apply s24
    | apply s25
    | apply wv_op
    | apply wv_un
    | apply wv_bi
    | apply wv_call
    | apply wv_call0
    | apply wv_tup
    | apply wv_lst
    | apply wv_cons
    | apply wv_nil
    | apply wv_T
    | apply wv_tru
    | apply wv_not
    | apply wv_and
    | apply wv_or
    | apply wv_if
    | apply wv_andV
    | apply wv_orV
    | apply wv_yes
    | apply wv_ret
    | apply wv_app
    | apply wv_dget
    | apply wv_dget2
    | apply wv_din
    | apply wv_dct1
    | apply wv_dct0
    | apply wv_sx2
    | apply wv_sxH
    | apply wv_sxL
    | apply exI
    | apply v0
    | apply v1
    | apply v2
    | apply v3
    | apply v4
    | apply v5
    | apply v6
    | apply v7
    | apply v8
    | apply v9
    | apply v10
    | apply v11
    | apply v12
    | apply v13
    | apply v14
    | apply v15
    | apply v16
    | apply v17
    | apply v18
    | apply v19
    | apply v20
    | apply v21
    | apply v22
    | apply v23
    | apply v24
    | apply v25
    | apply g_add
    | apply g_sub
    | apply g_iadd
    | apply g_isub
    | apply g_lt
    | apply g_le
    | apply g_gt
    | apply g_ge
    | apply g_eq
    | apply g_ne
    | apply g_neg
    | apply g_not
    | apply g_gcd
    | apply g_abs
    | apply g_int
    | apply g_intb
    | apply g_nq0
    | apply g_nq1
    | apply g_ix0
    | apply g_ix1
    | apply g_ix2
    | apply g_lenT
    | apply exT
    | apply exTru
    | apply ifT
    | apply ifF
    | apply ifT'
    | apply ifF'
    | apply nf1
    | apply nf2
    | apply nf3
    | apply nf4
    | apply len0
    | apply len1
    | apply len2
    | apply len3
    | apply len4
    )
def rowT (t : List Int × Rat) : D := .tup [.int (expo t : Nat), nq t.2]
theorem wv_rev2 {m m' : M D} {ρ : Rf.Env} {S : Sto} {Q : Sq → Sto → Prop} (h : WV (m ρ S) fun a S1 => WV (m' ρ S1) fun b S2 => ∃ i j : Nat, a = .int (i : Int) ∧ b = .int (j : Int) ∧ i < 2 ^ 60 ∧ j < 2 ^ 60 ∧ Q (sqIt (revD (i : Int) (j - i))) S2) : WV (mRev2 m m' ρ S) Q := by
  refine wv_b (h.imp fun a S1 h1 => wv_b (h1.imp fun b S2 h2 => ?_))
  obtain ⟨i, j, rfl, rfl, e1, e2, k⟩ := h2
  refine ⟨_, S2, ?_, k⟩
  show (if (rngOk (i : Int) && rngOk (j : Int)) = true then some (R.val (sqIt (revD (i : Int) ((j : Int) - (i : Int)).toNat)) S2) else none) = _
  rw [rngOk_nat e1, rngOk_nat e2, show ((j : Int) - (i : Int)).toNat = j - i by omega]
  rfl
theorem revD_len' {lo : Int} {n : Nat} : (revD lo n).length = n := by unfold revD; rw [List.length_map, List.length_range]
theorem revD_at' {lo n m : Nat} {x : D} (h : (revD (lo : Int) n)[m]? = some x) : m < n ∧ x = .int ((lo + n - 1 - m : Nat) : Int) := by
  unfold revD at h
  rw [List.getElem?_map] at h
  by_cases c : m < n
  · rw [List.getElem?_range c] at h
    cases h
    refine ⟨c, ?_⟩
    show D.int ((lo : Int) + (n : Int) - 1 - (m : Int)) = _
    congr 1
    omega
  · rw [List.getElem?_eq_none (by rw [List.length_range]; omega)] at h
    cases h
theorem atI_row' {n i : Nat} {g : Nat → D} (h : i < n) : atI (rowG n g) (i : Int) = some (g i) := by
  unfold atI
  rw [rowG_len, ixN_nat h, Option.bind_some, rowG_get h]
theorem ws_laug' {f : Int → Int → Int} {mo mi mv : M D} {ρ : Rf.Env} {S : Sto} {N B C : Rf.Env → Sto → Prop} {T : D → Sto → Prop} (h : WV (mo ρ S) fun o S1 => WV (mi ρ S1) fun k S2 => ∃ id xs n a, o = .ref id ∧ k = .int n ∧ S2[id]? = some (.lst xs) ∧ atI xs n = some (.int a) ∧ WV (mv ρ S2) fun v S3 => ∃ ys b j, v = .int b ∧ S3[id]? = some (.lst ys) ∧ ixN ys.length n = some j ∧ N ρ (S3.set id (.lst (ys.set j (.int (f a b)))))) : WS (sLAug f mo mi mv ρ S) N T B C := by
  refine ws_b (h.imp fun o S1 h1 => ws_b (h1.imp fun k S2 h2 => ?_))
  obtain ⟨id, xs, n, a, rfl, rfl, e1, e2, h3⟩ := h2
  have e3 : lstR S2 (.ref id) = some xs := by unfold lstR; dsimp only; rw [e1]
  have e4 : Rf.intD (.int n) = some n := rfl
  show WS (match lstR S2 (.ref id), Rf.intD (.int n) with
    | some xs, some k => _
    | _, _ => none) N T B C
  rw [e3, e4]
  dsimp only
  rw [e2]
  refine ws_b (h3.imp fun v S3 h4 => ?_)
  obtain ⟨ys, b, j, rfl, f1, f2, q⟩ := h4
  have f3 : lstR S3 (.ref id) = some ys := by unfold lstR; dsimp only; rw [f1]
  refine .inl ⟨ρ, S3.set id (.lst (ys.set j (.int (f a b)))), ?_, q⟩
  show (match lstR S3 (.ref id), D.int b with
    | some ys, .int b => _
    | _, _ => none) = _
  rw [f3]
  dsimp only
  rw [f2]
  rfl
theorem sq_ref' {id : Nat} {xs : List D} {S : Sto} (hs : S[id]? = some (.lst xs)) : sqOf S (.ref id) = some (sqRef id) := by unfold sqOf; dsimp only; rw [hs]
theorem w_moved_row {top N L M : Nat} {h : Nat → Rat} {x : Rat} (r : RB L M N (top + 1) h) (ht : top ≤ 18) (L0 : 0 < L) (L40 : L < 2 ^ 40) (M300 : M * L < 2 ^ 300) (hx : sz 4 x) {R : Nat} {S : Sto} (hs : S[R]? = some (.lst ((spP (top + 1) h).map rowT))) {Q : D → Sto → Prop}
    (k : ∀ S' i, Keep S S' → S.length ≤ i → S'[i]? = some (.lst (rowG (top + 1) fun e => .tup [.int (e : Nat), .int (mvI h x (bel (spP (top + 1) h)) top e), .int (((bel (spP (top + 1) h) : Nat) : Int) * (x.den : Int) ^ (top - e))])) → Q (.ref i) S') : WV (F__moved_row [.ref R, nq x] S) Q := by
  have qb := sp_qb (n := top + 1) (by omega) r.bd
  have hz : h top ≠ 0 := r.end_.resolve_left (by omega)
  have dL : ∀ t ∈ spP (top + 1) h, t.2.den ∣ L := fun t ht => Int.ofNat_dvd.mp (qb.pb.bd t ht).dvd
  have bL : ∀ j, bel ((spP (top + 1) h).take j) ≤ L := fun j => Nat.le_of_dvd L0 (bel_dvd fun u hu => dL u (List.mem_of_mem_take hu))
  have big : 2 ^ 40 ≤ BIG := by
    unfold BIG
    exact Nat.pow_le_pow_right (by decide) (by decide)
  have b0 : 0 < bel (spP (top + 1) h) := bel_pos
  have bl : bel (spP (top + 1) h) ≤ L := Nat.le_of_dvd L0 (bel_dvd dL)
  have dd : ∀ i, i < top + 1 → (h i).den ∣ bel (spP (top + 1) h) := fun i hi => by
    by_cases z : h i = 0
    · rw [z]; exact Nat.one_dvd _
    · exact den_bel (t := ([(i : Int)], h i)) (mem_spP.mpr ⟨i, hi, z, rfl⟩)
  have gl : (spP (top + 1) h).getLast? = some ([(top : Int)], h top) := by rw [spP_succ, if_neg hz, List.getLast?_concat]
  have nn : (spP (top + 1) h).length ≤ top + 1 := spP_len
  unfold F__moved_row m__moved_row
  refine wfn [some (.ref R), some (nq x), none, none, none, none, none, none, none, none, none, none] rfl ?_
  repeat infer_instance
  refine ⟨_, rfl, ?_⟩
  simp only [set0, setS]
  repeat infer_instance
  refine g_ixLastR hs (x := rowT ([(top : Int)], h top)) (by rw [List.getLast?_map, gl]; rfl) ?_
  unfold rowT
  repeat infer_instance
  rw [show ((expo ([(top : Int)], h top) : Nat) : Int) = (top : Nat) from rfl]
  generalize hb : bel (spP (top + 1) h) = b at k b0 bl dd
  have tl : (((spP (top + 1) h).map rowT)).length = (spP (top + 1) h).length := List.length_map ..
  refine ws_mid (fun ρ S1 => ∃ x6 x7, S1 = S ∧ ρ = [some (.ref R), some (nq x), some (.int x.num), some (.int (x.den : Nat)), some (.int (top : Nat)), some (.int (b : Nat)), x6, x7, none, none, none, none]) ?_ (fun ρ S1 hM => ?_)
  · refine ws_for ((spP (top + 1) h).map rowT) (fun j ρ S1 => ∃ x6 x7, S1 = S ∧ ρ = [some (.ref R), some (nq x), some (.int x.num), some (.int (x.den : Nat)), some (.int (top : Nat)), some (.int (bel ((spP (top + 1) h).take j) : Nat)), x6, x7, none, none, none, none]) (by rw [tl]; omega) ?_ (fun j y ρ S1 hy hI => ?_) (fun ρ S1 hI => ?_)
    · refine wv_seq ?_
      repeat infer_instance
      exact ⟨_, sq_ref' hs, ⟨_, _, rfl, rfl⟩, fun _ _ _ hI => by obtain ⟨_, _, rfl, _⟩ := hI; exact sqIs_ref hs⟩
    · obtain ⟨x6, x7, rfl, rfl⟩ := hI
      rw [List.getElem?_map] at hy
      obtain ⟨t, ht', rfl⟩ := Option.map_eq_some_iff.mp hy
      have hm := List.mem_of_getElem? ht'
      refine ⟨_, rfl, ?_⟩
      unfold L0__moved_row
      simp only [set0, setS]
      repeat infer_instance
      have tb : t.2.den < BIG := Nat.lt_of_le_of_lt (Nat.le_of_dvd L0 (dL t hm)) (Nat.lt_of_lt_of_le L40 big)
      refine g_lcm (lcmOk_b (Nat.lt_of_le_of_lt (bL j) (Nat.lt_of_lt_of_le L40 big))) (lcmOk_b tb) ?_
      refine ⟨some (.int (expo t : Nat)), some (nq t.2), rfl, ?_⟩
      rw [take_next ht', bel_snoc]; rfl
    · obtain ⟨x6, x7, rfl, rfl⟩ := hI
      rw [tl, List.take_length, hb]
      exact ⟨_, _, rfl, rfl⟩
  · obtain ⟨x6, x7, rfl, rfl⟩ := hM
    repeat infer_instance
    have pw : ∀ i, szI 140 ((x.den : Int) ^ (top - i)) := fun i => by
      have := Rf.szI.pow hx.2 (top - i)
      exact this.mono (by omega)
    refine wv_lc (rngD 0 (top + 1)) (fun d => match d with
      | .int j => some (.int ((x.den : Int) ^ j.toNat))
      | _ => none) (by rw [rngD_len]; omega) ?_
    refine wv_rng1 ?_
    repeat infer_instance
    rw [show (top : Int) + 1 = ((top + 1 : Nat) : Int) by omega]
    refine ⟨_, rfl, rngOk_nat (by omega), fun _ _ => by rw [Int.toNat_natCast]; exact sqIs_it, fun y hy S2 k2 => ?_, fun pi S2 k2 hpi hp => ?_⟩
    · obtain ⟨j, hj, rfl⟩ := rngD_mem hy
      refine ⟨_, rfl, wv_yes ⟨Keep.refl _, fun _ => ?_, fun z => nomatch z⟩⟩
      unfold L1__moved_row
      simp only [tN, wipeE, set0, setS]
      repeat infer_instance
      refine wv_of (e_whole_power hx.2 _ (by decide) (by omega)) ⟨Keep.refl _, ?_⟩
      rw [Int.toNat_natCast]
    · have hp : S2[pi]? = some (.lst (rowZ (top + 1) fun j => (x.den : Int) ^ j)) := by
        rw [hp]
        congr 2
        unfold rowZ rngD rowG
        rw [List.filterMap_map]
        exact filterMap_map_mem fun a _ => by
          show some (D.int ((x.den : Int) ^ (0 + (a : Int)).toNat)) = _
          rw [Int.zero_add, Int.toNat_natCast]
      repeat infer_instance
      rw [show (top : Int) + 1 = ((top + 1 : Nat) : Int) by omega]
      refine g_repL0 get_new (by omega) ?_
      generalize hz1 : (S2 ++ [O.lst [D.int 0]]).length = wi
      have hS2 : S1.length ≤ S2.length := k2.len
      have hwi : wi = S2.length + 1 := by rw [← hz1, List.length_append]; rfl
      refine ws_cut (fun ρ S3 => ∃ x8 x7, Keep S2 S3 ∧ S3[wi]? = some (.lst (rowZ (top + 1) (wRow h x b top))) ∧ ρ = [some (.ref R), some (nq x), some (.int x.num), some (.int (x.den : Nat)), some (.int (top : Nat)), some (.int (b : Nat)), x6, x7, x8, some (.ref pi), some (.ref wi), none]) ?_ (fun ρ S3 hM => ?_)
      · refine ws_for ((spP (top + 1) h).map rowT) (fun j ρ S3 => ∃ x8 x7, Keep S2 S3 ∧ S3[wi]? = some (.lst (rowZ (top + 1) fun i => wq (b : Int) (uco ((spP (top + 1) h).take j) i) * (x.den : Int) ^ (top - i))) ∧ ρ = [some (.ref R), some (nq x), some (.int x.num), some (.int (x.den : Nat)), some (.int (top : Nat)), some (.int (b : Nat)), x6, x7, x8, some (.ref pi), some (.ref wi), none]) (by rw [tl]; omega) ?_ (fun j y ρ S3 hy hI => ?_) (fun ρ S3 hI => ?_)
        · refine wv_seq ?_
          repeat infer_instance
          have hs' := Keep.app _ [O.lst (List.replicate (top + 1) (D.int 0))] _ _ (Keep.app S2 [O.lst [D.int 0]] _ _ (k2 _ _ hs))
          refine ⟨_, sq_ref' hs', ⟨_, _, (Keep.app _ _).trans (Keep.app _ _), ?_, rfl⟩, fun _ _ _ hI => by obtain ⟨_, _, kk, _, _⟩ := hI; exact sqIs_ref (kk _ _ (k2 _ _ hs))⟩
          rw [← hz1, get_new, rowG_rep]
          congr 2
          refine rowG_congr fun i _ => ?_
          show D.int 0 = D.int (wq (b : Int) (uco [] i) * _)
          have : wq (b : Int) (uco [] i) = 0 := by
            have e : uco [] i = 0 := rfl
            rw [e]; unfold wq
            exact Int.zero_mul _
          rw [this, Int.zero_mul]
        · obtain ⟨x8, x7, k3, hw, rfl⟩ := hI
          rw [List.getElem?_map] at hy
          obtain ⟨t, ht', rfl⟩ := Option.map_eq_some_iff.mp hy
          have hm := List.mem_of_getElem? ht'
          obtain ⟨e0, he0, hne, rfl⟩ := mem_spP.mp hm
          have el : expo ([(e0 : Int)], h e0) = e0 := rfl
          have dv : (h e0).den ∣ b := dd e0 he0
          refine ⟨_, rfl, ?_⟩
          unfold L2__moved_row
          simp only [set0, setS]
          refine ws_lput ?_
          repeat infer_instance
          have d12 : (h e0).den < 2 ^ 40 := Nat.lt_of_le_of_lt (Nat.le_of_dvd b0 dv) (by omega)
          refine g_div (divOk_sz (n := 40) (den_ne _) (by show ((h e0).den : Int).natAbs < 2 ^ 40; rw [Int.natAbs_natCast]; exact d12)) ?_
          have q1 : szI 40 ((b : Int).fdiv ((h e0).den : Int)) := by
            show ((b : Int).fdiv ((h e0).den : Int)).natAbs < 2 ^ 40
            rw [fdiv_nat, ← Int.natCast_ediv, Int.natAbs_natCast]
            exact Nat.lt_of_le_of_lt (Nat.div_le_self _ _) (by omega)
          have q2 : szI 300 (h e0).num := Nat.lt_of_le_of_lt ((r.bd e0 he0).num L0) M300
          refine g_mul (mulOk_sz q2 q1) ?_
          repeat infer_instance
          rw [el, show (top : Int) - (e0 : Int) = ((top - e0 : Nat) : Int) by omega]
          refine g_ixR (k3 _ _ hp) (rowG_get (by omega)) ?_
          refine g_mul (mulOk_sz (q2.mul q1) (pw e0)) ?_
          repeat infer_instance
          refine ⟨wi, _, (e0 : Int), e0, rfl, hw, rfl, by rw [rowG_len]; exact ixN_nat he0, ?_⟩
          refine ⟨_, _, k3.put (by omega) _, ?_, rfl⟩
          rw [List.getElem?_set_self (lt_of_get hw), rowG_set, take_next ht']
          congr 2
          refine rowG_congr fun i hi => ?_
          have nk := nodup_take qb.pb.wf.nodup ht'
          have cs : uco ((spP (top + 1) h).take j ++ [([(e0 : Int)], h e0)]) i = if [(e0 : Int)] = [(i : Int)] then h e0 else uco ((spP (top + 1) h).take j) i := co_snoc nk _
          show _ = D.int (wq (b : Int) (uco ((spP (top + 1) h).take j ++ [([(e0 : Int)], h e0)]) i) * _)
          rw [cs]
          by_cases ci : i = e0
          · subst ci
            rw [if_pos rfl, if_pos rfl]; rfl
          · rw [if_neg ci, if_neg (fun z => ci (by have := List.singleton_inj.mp z; omega))]
        · obtain ⟨x8, x7, k3, hw, rfl⟩ := hI
          rw [tl, List.take_length] at hw
          refine ⟨_, _, k3, ?_, rfl⟩
          rw [hw]
          congr 2
          refine rowG_congr fun i hi => ?_
          show D.int (wq (b : Int) (uco (spP (top + 1) h) i) * _) = _
          rw [sp_co, if_pos hi]; rfl
      · obtain ⟨x8, x7, k3, hw, rfl⟩ := hM
        have wz : ∀ i, i < top + 1 → szI 440 (wRow h x b top i) := fun i hi => by
          have a1 : szI 300 (wq (b : Int) (h i)) := Nat.lt_of_le_of_lt (wq_sz' bl (r.bd i hi) (dd i hi) b0) M300
          exact (a1.mul (pw i)).mono (by omega)
        have sz := st_sz (top := top) wz hx.1
        have top12 : 5 * (top + 1) * top ≤ 2000 := by
          have : 5 * (top + 1) * top ≤ 95 * 18 := Nat.mul_le_mul (by omega) ht
          omega
        repeat infer_instance
        refine ws_mid (fun ρ S4 => ∃ y8 y11, Keep S2 S4 ∧ S4[wi]? = some (.lst (rowZ (top + 1) (mvI h x b top))) ∧ ρ = [some (.ref R), some (nq x), some (.int x.num), some (.int (x.den : Nat)), some (.int (top : Nat)), some (.int (b : Nat)), x6, x7, y8, some (.ref pi), some (.ref wi), y11]) ?_ (fun ρ S4 hM => ?_)
        · refine ws_for (rngD 0 top) (fun m ρ S4 => m ≤ top ∧ ∃ y8 y11, Keep S2 S4 ∧ S4[wi]? = some (.lst (rowZ (top + 1) (stI (wRow h x b top) x.num top m))) ∧ ρ = [some (.ref R), some (nq x), some (.int x.num), some (.int (x.den : Nat)), some (.int (top : Nat)), some (.int (b : Nat)), x6, x7, y8, some (.ref pi), some (.ref wi), y11]) (by rw [rngD_len]; omega) ?_ (fun m y ρ S4 hy hI => ?_) (fun ρ S4 hI => ?_)
          · refine wv_rng1 ?_
            repeat infer_instance
            exact ⟨_, rfl, rngOk_nat (by omega), ⟨Nat.zero_le _, _, _, k3, hw, rfl⟩, fun _ _ _ _ => by rw [Int.toNat_natCast]; exact sqIs_it⟩
          · obtain ⟨hm, y8, y11, k4, hw4, rfl⟩ := hI
            obtain ⟨hmt, hye⟩ := rngD_get hy
            rw [Int.zero_add] at hye
            subst hye
            have szm := sz m
            have hst : stI (wRow h x b top) x.num top (m + 1) = syn (stI (wRow h x b top) x.num top m) x.num top m := rfl
            rw [hst]
            have hms : 5 * (top + 1) * m ≤ 5 * (top + 1) * top := Nat.mul_le_mul_left _ hm
            generalize stI (wRow h x b top) x.num top m = u at hw4 szm ⊢
            have sy : ∀ e, e < top + 1 → szI 2600 (syn u x.num top m e) := fun e he => by
              unfold syn
              split
              · exact (hr_sz (B := top + 1) szm hx.1 (by omega)).mono (by omega)
              · exact (szm e he).mono (by omega)
            refine ⟨_, rfl, ?_⟩
            unfold L4__moved_row
            simp only [tN, set0, setS]
            refine ws_for (revD (m : Int) (top - m)) (fun l ρ S5 => l ≤ top - m ∧ ∃ y8, Keep S2 S5 ∧ S5[wi]? = some (.lst (rowZ (top + 1) fun e => if top - l ≤ e then syn u x.num top m e else u e)) ∧ ρ = [some (.ref R), some (nq x), some (.int x.num), some (.int (x.den : Nat)), some (.int (top : Nat)), some (.int (b : Nat)), x6, x7, y8, some (.ref pi), some (.ref wi), some (.int (m : Nat))]) (by rw [revD_len']; omega) ?_ (fun l y ρ S5 hy hI => ?_) (fun ρ S5 hI => ?_)
            · refine wv_rev2 ?_
              repeat infer_instance
              refine ⟨m, top, rfl, rfl, by omega, by omega, ⟨Nat.zero_le _, _, k4, ?_, rfl⟩, fun _ _ _ _ => sqIs_it⟩
              rw [hw4]
              congr 2
              refine rowG_congr fun i hi => ?_
              show D.int (u i) = D.int (if top - 0 ≤ i then syn u x.num top m i else u i)
              split
              · obtain rfl : i = top := by omega
                rw [syn_top hm]
              · rfl
            · obtain ⟨hl, y8, k5, hw5, rfl⟩ := hI
              obtain ⟨hlm, rfl⟩ := revD_at' hy
              have hE : m + (top - m) - 1 - l = top - 1 - l := by omega
              rw [hE]
              have he1 : top - 1 - l + 1 = top - l := by omega
              refine ⟨_, rfl, ?_⟩
              unfold L3__moved_row
              simp only [tN, set0, setS]
              refine ws_laug' ?_
              repeat infer_instance
              refine ⟨wi, _, ((top - 1 - l : Nat) : Int), u (top - 1 - l), rfl, rfl, hw5, ?_, ?_⟩
              · rw [atI_row' (by omega)]
                show some (D.int (if top - l ≤ top - 1 - l then _ else u (top - 1 - l))) = _
                rw [if_neg (by omega)]
              repeat infer_instance
              rw [show ((top - 1 - l : Nat) : Int) + 1 = ((top - l : Nat) : Int) by omega]
              refine g_ixR hw5 (x := .int (syn u x.num top m (top - l))) (by
                rw [rowG_get (by omega)]
                show some (D.int (if top - l ≤ top - l then _ else _)) = _
                rw [if_pos (Nat.le_refl _)]) ?_
              refine g_mul (mulOk_sz hx.1 (sy (top - l) (by omega))) ?_
              refine ⟨_, _, top - 1 - l, rfl, hw5, by rw [rowG_len]; exact ixN_nat (by omega), ?_⟩
              refine ⟨by omega, _, k5.put (by omega) _, ?_, rfl⟩
              rw [List.getElem?_set_self (lt_of_get hw5), rowG_set]
              congr 2
              refine rowG_congr fun i hi => ?_
              show _ = D.int (if top - (l + 1) ≤ i then syn u x.num top m i else u i)
              by_cases ci : i = top - 1 - l
              · subst ci
                rw [if_pos rfl, if_pos (by omega), syn_step (w := u) (a := x.num) (top := top) (m := m) (e := top - 1 - l) (by omega) (by omega), he1]
              · rw [if_neg ci]
                show D.int (if top - l ≤ i then syn u x.num top m i else u i) = _
                by_cases c2 : top - l ≤ i
                · rw [if_pos c2, if_pos (by omega)]
                · rw [if_neg c2, if_neg (by omega)]
            · rw [revD_len'] at hI
              obtain ⟨_, y8, k5, hw5, rfl⟩ := hI
              refine ⟨by omega, _, _, k5, ?_, rfl⟩
              rw [hw5]
              congr 2
              refine rowG_congr fun i hi => ?_
              show D.int (if top - (top - m) ≤ i then syn u x.num top m i else u i) = _
              split
              · rfl
              · rw [syn_low (by omega)]
          · rw [rngD_len] at hI
            obtain ⟨_, y8, y11, k4, hw4, rfl⟩ := hI
            exact ⟨_, _, k4, hw4, rfl⟩
        · obtain ⟨y8, y11, k4, hw4, rfl⟩ := hM
          repeat infer_instance
          refine wv_lc (rngD 0 (top + 1)) (fun d => match d with
            | .int j => some (.tup [.int j, .int (mvI h x b top j.toNat), .int ((b : Int) * (x.den : Int) ^ (top - j.toNat))])
            | _ => none) (by rw [rngD_len]; omega) ?_
          refine wv_rng1 ?_
          repeat infer_instance
          rw [show (top : Int) + 1 = ((top + 1 : Nat) : Int) by omega]
          refine ⟨_, rfl, rngOk_nat (by omega), fun _ _ => by rw [Int.toNat_natCast]; exact sqIs_it, fun y hy S5 k5 => ?_, fun ri S5 k5 hri hr5 => ?_⟩
          · obtain ⟨j, hj, rfl⟩ := rngD_mem hy
            refine ⟨_, rfl, wv_yes ⟨Keep.refl _, fun _ => ?_, fun z => nomatch z⟩⟩
            unfold L5__moved_row
            simp only [tN, wipeE, set0, setS]
            repeat infer_instance
            refine g_ixR (k5 _ _ hw4) (rowG_get hj) ?_
            repeat infer_instance
            rw [show (top : Int) - (j : Int) = ((top - j : Nat) : Int) by omega]
            refine g_ixR (k5 _ _ (k4 _ _ hp)) (rowG_get (by omega)) ?_
            have bz : szI 40 (b : Int) := by show ((b : Nat) : Int).natAbs < 2 ^ 40; rw [Int.natAbs_natCast]; omega
            refine g_mul (mulOk_sz bz (pw j)) ?_
            repeat infer_instance
            refine ⟨Keep.refl _, ?_⟩
            rw [Int.toNat_natCast]
          · refine k S5 ri ((k2.trans k4).trans k5) (by have := k2.len; have := k4.len; omega) ?_
            rw [hr5]
            congr 2
            unfold rngD rowG
            rw [List.filterMap_map]
            exact filterMap_map_mem fun a _ => by
              show some (D.tup [.int (0 + (a : Int)), .int (mvI h x b top (0 + (a : Int)).toNat), .int ((b : Int) * (x.den : Int) ^ (top - (0 + (a : Int)).toNat))]) = _
              rw [Int.zero_add, Int.toNat_natCast]
end Gn

namespace Gn
open PySem PySem.Spec PyProof.Rows L2 Rf
local macro_rules
  | `(tactic| infer_instance) => `(tactic| with_reducible first
    | apply ws_seq
    | apply ws_ret
    | apply ws_if
    | apply ws_ex
    | apply ws_asg
    | apply ws_par
    | apply ws_dput
    | apply ws_lput
    | apply ws_nil
    | apply ws_retN
    | apply s0
    | apply s1
    | apply s2
    | apply s3
    | apply s4
    | apply s5
    | apply s6
    | apply s7
    | apply s8
    | apply s9
    | apply s10
    | apply s11
    | apply s12
    | apply s13
    | apply s14
    | apply s15
    | apply s16
    | apply s17
    | apply s18
    | apply s19
    | apply s20
    | apply s21
    | apply s22
    | apply s23
    | apply s24
    | apply s25
    | apply wv_op
    | apply wv_un
    | apply wv_bi
    | apply wv_call
    | apply wv_call0
    | apply wv_tup
    | apply wv_lst
    | apply wv_cons
    | apply wv_nil
    | apply wv_T
    | apply wv_tru
    | apply wv_not
    | apply wv_and
    | apply wv_or
    | apply wv_if
    | apply wv_andV
    | apply wv_orV
    | apply wv_yes
    | apply wv_ret
    | apply wv_app
    | apply wv_dget
    | apply wv_dget2
    | apply wv_din
    | apply wv_dct1
    | apply wv_dct0
    | apply wv_sx2
    | apply wv_sxH
    | apply wv_sxL
    | apply exI
    | apply v0
    | apply v1
    | apply v2
    | apply v3
    | apply v4
    | apply v5
    | apply v6
    | apply v7
    | apply v8
    | apply v9
    | apply v10
    | apply v11
    | apply v12
    | apply v13
    | apply v14
    | apply v15
    | apply v16
    | apply v17
    | apply v18
    | apply v19
    | apply v20
    | apply v21
    | apply v22
    | apply v23
    | apply v24
    | apply v25
    | apply g_add
    | apply g_sub
    | apply g_iadd
    | apply g_isub
    | apply g_lt
    | apply g_le
    | apply g_gt
    | apply g_ge
    | apply g_eq
    | apply g_ne
    | apply g_neg
    | apply g_not
    | apply g_gcd
    | apply g_abs
    | apply g_int
    | apply g_intb
    | apply g_nq0
    | apply g_nq1
    | apply g_ix0
    | apply g_ix1
    | apply g_ix2
    | apply g_lenT
    | apply exT
    | apply exTru
    | apply ifT
    | apply ifF
    | apply ifT'
    | apply ifF'
    | apply nf1
    | apply nf2
    | apply nf3
    | apply nf4
    | apply len0
    | apply len1
    | apply len2
    | apply len3
    | apply len4
    )
theorem w_with_exponent {i e : Int} {S : Sto} {Q : D → Sto → Prop} (q : Q (.tup [.int e]) S) : WV (F__with_exponent [.tup [.int i], .int 0, .int e] S) Q := by
  unfold F__with_exponent m__with_exponent
  refine wfn [some (.tup [.int i]), some (.int 0), some (.int e)] rfl ?_
  repeat infer_instance
  refine ⟨_, _, rfl, ?_⟩
  repeat infer_instance
  refine ⟨_, _, rfl, ?_⟩
  repeat infer_instance
  refine ⟨_, _, rfl, ?_⟩
  exact ⟨_, _, rfl, q⟩
theorem wv_setd {mo : M D} {ms : M (List D)} {ρ : Rf.Env} {S : Sto} {Q : D → Sto → Prop} (h : WV (mo ρ S) fun o S1 => (∃ kvs, dctOf S1 o = some kvs) ∧ WV (ms ρ S1) fun as S2 => ∃ i k x kvs ks, o = .ref i ∧ as = [k, x] ∧ S2[i]? = some (.dct kvs) ∧ keyD k = some ks ∧ kvs.length < 1000000 ∧ (∀ d, valD kvs ks = some d → Q d S2) ∧ (valD kvs ks = none → Q x (S2.set i (.dct (putD kvs ks x))))) : WV (mSetd mo ms ρ S) Q := by
  refine wv_b (h.imp fun o S1 h1 => ?_)
  obtain ⟨⟨kvs0, e0⟩, h2⟩ := h1
  show WV (match dctOf S1 o with
    | some _ => _
    | none => none) Q
  rw [e0]
  dsimp only
  refine wv_b (h2.imp fun as S2 h3 => ?_)
  obtain ⟨i, k, x, kvs, ks, rfl, rfl, e1, e2, e3, q1, q2⟩ := h3
  have e4 : dctOf S2 (.ref i) = some kvs := by unfold dctOf; dsimp only; rw [e1]
  dsimp only
  rw [e4, e2]
  dsimp only
  rw [if_pos e3]
  cases hv : valD kvs ks with
  | some d => exact ⟨d, S2, rfl, q1 d hv⟩
  | none => exact ⟨x, _, rfl, q2 hv⟩
theorem ws_forD {v : Nat} {b : MS} {ρ : Rf.Env} {S : Sto} {N B C : Rf.Env → Sto → Prop} {T : D → Sto → Prop} {i : Nat} {kvs : List (List Key × D)} (e : ρ[v]? = some (some (.ref i))) (hk : S[i]? = some (.dct kvs))
    (h : WS (b ρ (S.set i (.dcl kvs))) (fun ρ' S' => N ρ' (S'.set i (.dct kvs))) (fun d S' => T d (S'.set i (.dct kvs))) (fun ρ' S' => B ρ' (S'.set i (.dct kvs))) (fun ρ' S' => C ρ' (S'.set i (.dct kvs)))) : WS (sForD v b ρ S) N T B C := by
  unfold sForD
  rw [e]
  dsimp only
  rw [hk]
  dsimp only
  rcases h with ⟨ρ1, S1, e1, k⟩ | ⟨d, S1, e1, k⟩ | ⟨ρ1, S1, e1, k⟩ | ⟨ρ1, S1, e1, k⟩ <;> rw [e1]
  · exact .inl ⟨_, _, rfl, k⟩
  · exact .inr (.inl ⟨_, _, rfl, k⟩)
  · exact .inr (.inr (.inl ⟨_, _, rfl, k⟩))
  · exact .inr (.inr (.inr ⟨_, _, rfl, k⟩))
theorem ws_forE {t : Tgt} {it : M Sq} {b : MS} {ρ : Rf.Env} {S : Sto} {N B C : Rf.Env → Sto → Prop} {T : D → Sto → Prop} (h : WV (it ρ S) fun sq S1 => ∃ (xs : List D) (I : Nat → Rf.Env → Sto → Prop), xs.length < 1000000 ∧ I 0 ρ S1 ∧ (∀ k ρ S, I k ρ S → SqIs sq xs S) ∧ (∀ k x ρ S, xs[k]? = some x → I k ρ S → ∃ ρ1, t x ρ S = some ρ1 ∧ WS (b ρ1 S) (I (k + 1)) T N (I (k + 1))) ∧ ∀ ρ S, I xs.length ρ S → N ρ S) : WS (sFor t it b ρ S) N T B C :=
  ws_b (h.imp fun sq S1 ⟨xs, I, hl, h0, h1, hb, he⟩ => loop_inv I h1 hb he fuel 0 ρ S1 (lt_fuel (k := 20) (Nat.lt_of_le_of_lt (Nat.sub_le _ _) (Nat.lt_trans hl (by decide))) (by omega)) (Nat.zero_le _) h0)
theorem wv_keysL {m : M D} {ρ : Rf.Env} {S : Sto} {Q : Sq → Sto → Prop} (h : WV (m ρ S) fun a S1 => ∃ i kvs, a = .ref i ∧ S1[i]? = some (.dcl kvs) ∧ Q (sqIt (kvs.map fun kv => keyDd kv.1)) S1) : WV (mKeysL m ρ S) Q := by
  refine wv_b (h.imp fun a S1 h1 => ?_)
  obtain ⟨i, kvs, rfl, e, q⟩ := h1
  refine ⟨_, S1, ?_, q⟩
  dsimp only
  rw [e]
/-- the table of the moved coefficients -/
def tabM (W : Nat → Int × Int) (n : Nat) : Tab NP := (List.range n).map fun (e : Nat) => ([(e : Int)], (W e, false))
theorem tabM_succ {W : Nat → Int × Int} {n : Nat} : tabM W (n + 1) = tabM W n ++ [([(n : Int)], (W n, false))] := by
  unfold tabM
  rw [List.range_succ, List.map_append, List.map_cons, List.map_nil]
theorem tabM_keys {W : Nat → Int × Int} {n : Nat} {e : List Int} (h : e ∈ keysA (tabM W n)) : ∃ i : Nat, i < n ∧ e = [(i : Int)] := by
  obtain ⟨t, ht, rfl⟩ := List.mem_map.mp h
  obtain ⟨i, hi, rfl⟩ := List.mem_map.mp ht
  exact ⟨i, List.mem_range.mp hi, rfl⟩
theorem put_new {α : Type} {T : Tab α} {e : List Int} {x : α} (h : e ∉ keysA T) : putA T e x = T ++ [(e, x)] := by
  unfold putA
  rw [if_neg]
  intro z
  rw [List.any_eq_true] at z
  obtain ⟨t, ht, hz⟩ := z
  exact h (List.mem_map.mpr ⟨t, ht, of_decide_eq_true hz⟩)
theorem tabM_step {W : Nat → Int × Int} {n : Nat} : putA (tabM W n) [(n : Int)] (W n, false) = tabM W (n + 1) := by
  rw [tabM_succ]
  refine put_new fun h => ?_
  obtain ⟨i, hi, e⟩ := tabM_keys h
  have := List.singleton_inj.mp e
  omega
theorem tabM_nodup {W : Nat → Int × Int} : ∀ n : Nat, (keysA (tabM W n)).Nodup
  | 0 => List.nodup_nil
  | n + 1 => by
    rw [← tabM_step]
    exact nodup_put (tabM_nodup n)
theorem co_none {p : Pol} {e : List Int} (h : e ∉ keysA p) : co p e = 0 := by
  have : lookA p e = none := by
    unfold lookA
    rw [List.find?_eq_none.mpr fun t ht z => h (List.mem_map.mpr ⟨t, ht, of_decide_eq_true z⟩)]
    rfl
  unfold co
  rw [this]; rfl
theorem tabM_co {W : Nat → Int × Int} {n : Nat} (e : List Int) : co (ratT (tabM W n)) e = co (spP n fun i => valP (W i)) e := by
  have a : ∀ n : Nat, ∀ i : Nat, co (ratT (tabM W n)) [(i : Int)] = if i < n then valP (W i) else 0 := fun n => by
    induction n with
    | zero => exact fun i => rfl
    | succ n ih =>
      intro i
      rw [tabM_succ, ratT_app]
      show co (ratT (tabM W n) ++ [([(n : Int)], valP (W n))]) _ = _
      rw [co_snoc (t := ([(n : Int)], valP (W n))) (fun h => by
        obtain ⟨t, ht, e1⟩ := List.mem_map.mp h
        obtain ⟨u, hu, rfl⟩ := List.mem_map.mp ht
        obtain ⟨j, hj, e2⟩ := tabM_keys (List.mem_map.mpr ⟨u, hu, rfl⟩)
        rw [e2] at e1
        have := List.singleton_inj.mp e1
        omega), ih]
      by_cases c : i = n
      · subst c
        rw [if_pos rfl, if_pos (by omega)]
      · rw [if_neg (fun z => c (by have := List.singleton_inj.mp z; omega))]
        by_cases c1 : i < n
        · rw [if_pos c1, if_pos (by omega)]
        · rw [if_neg c1, if_neg (by omega)]
  by_cases hk : ∃ i : Nat, i < n ∧ e = [(i : Int)]
  · obtain ⟨i, hi, rfl⟩ := hk
    rw [a, if_pos hi]
    have := sp_co (n := n) (h := fun i => valP (W i)) i
    unfold uco at this
    rw [this, if_pos hi]
  · have z1 : co (ratT (tabM W n)) e = 0 := by
      refine co_none fun h => hk ?_
      obtain ⟨t, ht, e1⟩ := List.mem_map.mp h
      obtain ⟨u, hu, rfl⟩ := List.mem_map.mp ht
      obtain ⟨j, hj, e2⟩ := tabM_keys (List.mem_map.mpr ⟨u, hu, rfl⟩)
      exact ⟨j, hj, by rw [← e1]; exact e2⟩
    have z2 : co (spP n fun i => valP (W i)) e = 0 := co_none fun h => hk (sp_keys h)
    rw [z1, z2]
theorem bnd_ex (f : Nat → Int) : ∀ n : Nat, ∃ M : Nat, ∀ e, e < n → (f e).natAbs ≤ M
  | 0 => ⟨0, fun e h => absurd h (by omega)⟩
  | n + 1 => by
    obtain ⟨M, h⟩ := bnd_ex f n
    refine ⟨M + (f n).natAbs, fun e he => ?_⟩
    by_cases c : e = n
    · rw [c]; omega
    · have := h e (by omega); omega
theorem pow_dvdI {x : Int} {a b : Nat} (h : a ≤ b) : x ^ a ∣ x ^ b := ⟨x ^ (b - a), by rw [← Int.pow_add]; congr 1; omega⟩
theorem st_top {w : Nat → Int} {a : Int} {top : Nat} : ∀ m, m ≤ top → stI w a top m top = w top
  | 0, _ => rfl
  | m + 1, h => by
    show syn (stI w a top m) a top m top = _
    rw [syn_top (by omega), st_top m (by omega)]
theorem dvz {x b : Int} (hb : b ≠ 0) : Rat.divInt x b = 0 ↔ x = 0 := by
  have hb' := cast_ne hb
  rw [Rat.divInt_eq_div]
  constructor
  · intro h
    have : ((x : Int) : Rat) = 0 := by grind
    exact_mod_cast this
  · rintro rfl
    have : ((0 : Int) : Rat) = 0 := rfl
    grind
theorem den_dvd {a b : Int} (hb : 0 < b) : ((Rat.divInt a b).den : Int) ∣ b := by
  have p := (frac_pos (a := a) hb).2
  rw [p]
  exact ⟨((a.natAbs.gcd b.natAbs : Nat) : Int), (Int.ediv_mul_cancel (Int.dvd_natAbs.mp (Int.natCast_dvd_natCast.mpr (Nat.gcd_dvd_right _ _)))).symm⟩
theorem den_mul_dvd (x y : Rat) : (x * y).den ∣ x.den * y.den := by
  have := bq_mul (L := x.den) (M := x.num.natAbs) (L' := y.den) (M' := y.num.natAbs) (x := x) (y := y) ⟨by have := x.den_pos; show (0 : Int) < (x.den : Int); omega, Int.dvd_refl _, Nat.le_mul_of_pos_right _ (by have := x.den_pos; show 0 < ((x.den : Int)).natAbs; omega)⟩ ⟨by have := y.den_pos; show (0 : Int) < (y.den : Int); omega, Int.dvd_refl _, Nat.le_mul_of_pos_right _ (by have := y.den_pos; show 0 < ((y.den : Int)).natAbs; omega)⟩
  exact Int.ofNat_dvd.mp this.dvd
theorem den_pow_dvd (x : Rat) : ∀ k : Nat, (x ^ k).den ∣ x.den ^ k
  | 0 => by rw [Rat.pow_zero]; exact Nat.one_dvd _
  | k + 1 => by
    rw [Rat.pow_succ, Nat.pow_succ]
    exact Nat.dvd_trans (den_mul_dvd _ _) (Nat.mul_dvd_mul_right (den_pow_dvd x k) _)
/-- what is known of a moved row -/
structure MV (L top : Nat) (h : Nat → Rat) (x : Rat) (h' : Nat → Rat) : Prop where
  ev : ∀ y, hr h' y 0 (top + 1) = hr h (y + x) 0 (top + 1)
  top0 : h' top ≠ 0
  sz : ∀ i, i < top + 1 → sz 2200 (h' i)
  dv : ∀ i, i < top + 1 → (h' i).den ∣ L * x.den ^ top
theorem mv_all {top N L M : Nat} {h : Nat → Rat} {x : Rat} (r : RB L M N (top + 1) h) (ht : top ≤ 18) (L0 : 0 < L) (L40 : L < 2 ^ 40) (M300 : M * L < 2 ^ 300) (hx : sz 4 x) : MV L top h x (mvH h x (bel (spP (top + 1) h)) top) := by
  have qb := sp_qb (n := top + 1) (by omega) r.bd
  have hz : h top ≠ 0 := r.end_.resolve_left (by omega)
  have dL : ∀ t ∈ spP (top + 1) h, t.2.den ∣ L := fun t ht => Int.ofNat_dvd.mp (qb.pb.bd t ht).dvd
  have b0 : 0 < bel (spP (top + 1) h) := bel_pos
  have b12 : bel (spP (top + 1) h) ∣ L := bel_dvd dL
  have bl : bel (spP (top + 1) h) ≤ L := Nat.le_of_dvd L0 b12
  have dd : ∀ i, i < top + 1 → (h i).den ∣ bel (spP (top + 1) h) := fun i hi => by
    by_cases z : h i = 0
    · rw [z]; exact Nat.one_dvd _
    · exact den_bel (t := ([(i : Int)], h i)) (mem_spP.mpr ⟨i, hi, z, rfl⟩)
  generalize bel (spP (top + 1) h) = b at b0 b12 bl dd ⊢
  have pz : ∀ e, (b : Int) * (x.den : Int) ^ (top - e) ≠ 0 := fun e => by
    have := x.den_pos
    have : (0 : Int) < (b : Int) * (x.den : Int) ^ (top - e) := Int.mul_pos (by omega) (Int.pow_pos (by omega))
    omega
  have pw : ∀ i, szI 140 ((x.den : Int) ^ (top - i)) := fun i => by
    have := Rf.szI.pow hx.2 (top - i)
    exact this.mono (by omega)
  have wz : ∀ i, i < top + 1 → szI 440 (wRow h x b top i) := fun i hi => by
    have a1 : szI 300 (wq (b : Int) (h i)) := Nat.lt_of_le_of_lt (wq_sz' bl (r.bd i hi) (dd i hi) b0) M300
    exact (a1.mul (pw i)).mono (by omega)
  have bz : szI 40 (b : Int) := by show ((b : Nat) : Int).natAbs < 2 ^ 40; rw [Int.natAbs_natCast]; omega
  refine ⟨mv_ev b0 fun i hi => dd i (by omega), fun z => ?_, fun i hi => ?_, fun i hi => ?_⟩
  · have z1 := (dvz (pz top)).mp z
    unfold mvI at z1
    rw [st_top top (Nat.le_refl _)] at z1
    unfold wRow at z1
    rw [Nat.sub_self, Int.pow_zero, Int.mul_one] at z1
    have e := wq_dvd (dd top (by omega))
    rw [z1] at e
    have hb' := cast_ne (show (b : Int) ≠ 0 by omega)
    have h1 : ((0 : Int) : Rat) = 0 := rfl
    rw [h1] at e
    grind
  · have m1 : 5 * (top + 1) * top ≤ 1710 := by
      have : 5 * (top + 1) * top ≤ 95 * 18 := Nat.mul_le_mul (by omega) ht
      omega
    exact sz_frac (pz i) ((st_sz (top := top) wz hx.1 top i hi).mono (by omega)) ((bz.mul (pw i)).mono (by omega))
  · have hp := x.den_pos
    have d1 : ((mvH h x b top i).den : Int) ∣ (b : Int) * (x.den : Int) ^ (top - i) := den_dvd (Int.mul_pos (by omega) (Int.pow_pos (by omega)))
    have d2 : (b : Int) * (x.den : Int) ^ (top - i) ∣ ((L * x.den ^ top : Nat) : Int) := by
      rw [Int.natCast_mul, Int.natCast_pow]
      exact Int.mul_dvd_mul (Int.ofNat_dvd.mpr b12) (pow_dvdI (by omega))
    exact Int.ofNat_dvd.mp (Int.dvd_trans d1 d2)
end Gn

set_option maxHeartbeats 2000000
namespace Gn
open PySem PySem.Spec PyProof.Rows L2 Rf
/-! ### a polynomial as rows in one of its variables -/
def oth (k : Nat) (e : List Int) : List Int := e.set k 0
def rowOf (k : Nat) (o : List Int) (q : Pol) : List (Int × Rat) := q.filterMap fun t => if oth k t.1 = o then some (t.1.getD k 0, t.2) else none
theorem rowOf_cons {k : Nat} {o : List Int} {t : List Int × Rat} {q : Pol} : rowOf k o (t :: q) = if oth k t.1 = o then (t.1.getD k 0, t.2) :: rowOf k o q else rowOf k o q := by
  unfold rowOf
  rw [List.filterMap_cons]
  by_cases c : oth k t.1 = o
  · rw [if_pos c, if_pos c]
  · rw [if_neg c, if_neg c]
theorem rowOf_snoc {k : Nat} {o : List Int} {t : List Int × Rat} {q : Pol} : rowOf k o (q ++ [t]) = if oth k t.1 = o then rowOf k o q ++ [(t.1.getD k 0, t.2)] else rowOf k o q := by
  unfold rowOf
  rw [List.filterMap_append, List.filterMap_cons]
  by_cases c : oth k t.1 = o
  · rw [if_pos c, if_pos c]; rfl
  · rw [if_neg c, if_neg c]
    show _ ++ [] = _
    rw [List.append_nil]
theorem mem_rowOf {k : Nat} {o : List Int} {q : Pol} {u : Int × Rat} (h : u ∈ rowOf k o q) : ∃ t ∈ q, oth k t.1 = o ∧ u = (t.1.getD k 0, t.2) := by
  obtain ⟨t, ht, e⟩ := List.mem_filterMap.mp h
  by_cases c : oth k t.1 = o
  · rw [if_pos c] at e
    exact ⟨t, ht, c, (Option.some.inj e).symm⟩
  · rw [if_neg c] at e; cases e
theorem rowOf_mem {k : Nat} {q : Pol} {t : List Int × Rat} (ht : t ∈ q) : (t.1.getD k 0, t.2) ∈ rowOf k (oth k t.1) q := List.mem_filterMap.mpr ⟨t, ht, if_pos rfl⟩
theorem set_back {k : Nat} {e : List Int} (h : k < e.length) : (oth k e).set k (e.getD k 0) = e := by
  unfold oth
  rw [List.set_set, List.getD_eq_getElem?_getD, List.getElem?_eq_getElem h]
  exact List.set_getElem_self h
/-- with the others equal, the order is that of the exponents -/
theorem lex_one : ∀ {k : Nat} {a b : List Int}, a.length = b.length → k < a.length → oth k a = oth k b → Rf.lexLt a b = true → a.getD k 0 < b.getD k 0
  | _, [], [], _, h, _, _ => by simp at h
  | _, [], _ :: _, h, _, _, _ => by simp at h
  | _, _ :: _, [], h, _, _, _ => by simp at h
  | 0, x :: a, y :: b, hl, hk, ho, hlt => by
    have e : a = b := (List.cons.inj (show (0 : Int) :: a = 0 :: b from ho)).2
    subst e
    unfold Rf.lexLt at hlt
    rw [Bool.or_eq_true, Bool.and_eq_true] at hlt
    rcases hlt with h | ⟨_, h⟩
    · exact of_decide_eq_true h
    · have : ∀ l : List Int, Rf.lexLt l l = false := fun l => by
        induction l with
        | nil => rfl
        | cons x l ih => unfold Rf.lexLt; simp [ih]
      rw [this] at h; cases h
  | k + 1, x :: a, y :: b, hl, hk, ho, hlt => by
    have e := List.cons.inj (show x :: oth k a = y :: oth k b from ho)
    obtain ⟨rfl, e2⟩ := e
    have hl' : a.length = b.length := by simpa using hl
    have hk' : k < a.length := by simpa using hk
    unfold Rf.lexLt at hlt
    rw [Bool.or_eq_true, Bool.and_eq_true] at hlt
    rcases hlt with h | ⟨_, h⟩
    · exact absurd (of_decide_eq_true h) (Int.lt_irrefl _)
    · show a.getD k 0 < b.getD k 0
      exact lex_one (k := k) (a := a) (b := b) hl' hk' e2 h
theorem rowOf_asc {n k : Nat} {o : List Int} (hk : k < n) : ∀ {p : Pol}, (keysA p).Pairwise (fun a b => Rf.lexLt a b = true) → (∀ e ∈ keysA p, e.length = n) → (rowOf k o p).Pairwise fun u v => u.1 < v.1
  | [], _, _ => List.Pairwise.nil
  | t :: p, hs, hl => by
    have hs' := List.pairwise_cons.mp (show (t.1 :: keysA p).Pairwise _ from hs)
    have ih := rowOf_asc (o := o) hk hs'.2 fun e he => hl e (List.mem_cons_of_mem _ he)
    rw [rowOf_cons]
    by_cases c : oth k t.1 = o
    · rw [if_pos c, List.pairwise_cons]
      refine ⟨fun u hu => ?_, ih⟩
      obtain ⟨v, hv, e1, rfl⟩ := mem_rowOf hu
      have hvk : v.1 ∈ keysA p := List.mem_map.mpr ⟨v, hv, rfl⟩
      have l1 := hl t.1 List.mem_cons_self
      have l2 := hl v.1 (List.mem_cons_of_mem _ hvk)
      exact lex_one (by omega) (by omega) (c.trans e1.symm) (hs'.1 _ hvk)
    · rw [if_neg c]
      exact ih
def spL (N : Nat) (f : Nat → Rat) : List (Int × Rat) := (List.range N).filterMap fun i => if f i = 0 then none else some ((i : Int), f i)
theorem spL_succ {N : Nat} {f : Nat → Rat} : spL (N + 1) f = if f N = 0 then spL N f else spL N f ++ [((N : Int), f N)] := by
  unfold spL
  rw [List.range_succ, List.filterMap_append, List.filterMap_cons]
  by_cases c : f N = 0
  · rw [if_pos c, if_pos c]
    show _ ++ [] = _
    rw [List.append_nil]
  · rw [if_neg c, if_neg c]; rfl
theorem asc_sp : ∀ (N : Nat) (l : List (Int × Rat)) (f : Nat → Rat), (l.Pairwise fun u v => u.1 < v.1) → (∀ u ∈ l, 0 ≤ u.1 ∧ u.1 < (N : Int)) → (∀ u ∈ l, u.2 ≠ 0 ∧ u.2 = f u.1.toNat) → (∀ i : Nat, i < N → f i ≠ 0 → ((i : Int), f i) ∈ l) → l = spL N f
  | 0, l, f, _, h2, _, _ => by
    cases l with
    | nil => rfl
    | cons u l => have := h2 u List.mem_cons_self; omega
  | N + 1, l, f, h1, h2, h3, h4 => by
    rw [spL_succ]
    by_cases c : f N = 0
    · rw [if_pos c]
      refine asc_sp N l f h1 (fun u hu => ?_) h3 fun i hi => h4 i (by omega)
      have a := h2 u hu
      have b := h3 u hu
      refine ⟨a.1, ?_⟩
      by_cases d : u.1 = (N : Int)
      · rw [d, Int.toNat_natCast, c] at b
        exact absurd b.2 b.1
      · omega
    · rw [if_neg c]
      have hm := h4 N (Nat.lt_succ_self N) c
      rcases List.eq_nil_or_concat l with rfl | ⟨l', u, rfl⟩
      · cases hm
      · rw [List.concat_eq_append] at h1 h2 h3 h4 hm ⊢
        have pw := List.pairwise_append.mp h1
        have hu : u = ((N : Int), f N) := by
          rcases List.mem_append.mp hm with h | h
          · have := pw.2.2 _ h u (List.mem_singleton.mpr rfl)
            have b := h2 u (List.mem_append.mpr (.inr (List.mem_singleton.mpr rfl)))
            have : (N : Int) < u.1 := this
            omega
          · exact (List.mem_singleton.mp h).symm
        subst hu
        congr 1
        refine asc_sp N l' f pw.1 (fun u hu => ?_) (fun u hu => h3 u (List.mem_append.mpr (.inl hu))) fun i hi hz => ?_
        · have a := h2 u (List.mem_append.mpr (.inl hu))
          have b := pw.2.2 u hu _ (List.mem_singleton.mpr rfl)
          exact ⟨a.1, b⟩
        · rcases List.mem_append.mp (h4 i (by omega) hz) with h | h
          · exact h
          · have := congrArg Prod.fst (List.mem_singleton.mp h)
            have : (i : Int) = (N : Int) := this
            omega
/-- the coefficients of a row -/
def hO (p : Pol) (k : Nat) (o : List Int) : Nat → Rat := fun i => co p (o.set k (i : Int))
theorem row_eq {n k : Nat} {p : Pol} {o : List Int} (hp : WF n p) (pk : PK n 4 p) (hk : k < n) : rowOf k o p = spL 4 (hO p k o) ∨ ∀ t ∈ p, oth k t.1 ≠ o := by
  by_cases c : ∃ t ∈ p, oth k t.1 = o
  · left
    obtain ⟨t0, ht0, e0⟩ := c
    have oo : ∀ i : Int, oth k (o.set k i) = o := fun i => by
      rw [← e0]
      unfold oth
      rw [List.set_set, List.set_set]
    refine asc_sp 4 _ _ (rowOf_asc hk hp.srt fun e he => (hp.ok e he).1) (fun u hu => ?_) (fun u hu => ?_) fun i hi hz => ?_
    · obtain ⟨t, ht, _, rfl⟩ := mem_rowOf hu
      have te := pk t.1 (List.mem_map.mpr ⟨t, ht, rfl⟩)
      exact (getE te hk).2
    · obtain ⟨t, ht, e, rfl⟩ := mem_rowOf hu
      have te := pk t.1 (List.mem_map.mpr ⟨t, ht, rfl⟩)
      have b := getE te hk
      refine ⟨hp.nz t ht, ?_⟩
      show t.2 = co p (o.set k (((t.1.getD k 0).toNat : Nat) : Int))
      rw [show (((t.1.getD k 0).toNat : Nat) : Int) = t.1.getD k 0 by omega, ← e, set_back (by rw [te.1]; exact hk)]
      unfold co
      rw [lookA_of hp.nodup ht]
      rfl
    · have hm : o.set k (i : Int) ∈ keysA p := hp.mem_iff.mpr hz
      obtain ⟨t, ht, e⟩ := List.mem_map.mp hm
      have te := pk t.1 (List.mem_map.mpr ⟨t, ht, rfl⟩)
      have hv : hO p k o i = t.2 := by
        show co p (o.set k (i : Int)) = t.2
        rw [← e]
        unfold co
        rw [lookA_of hp.nodup ht]
        rfl
      have h1 := rowOf_mem (k := k) ht
      rw [hv]
      have e2 : t.1 = o.set k (i : Int) := e
      have lo : k < o.length := by
        have := te.1
        rw [e2, List.length_set] at this
        omega
      rw [e2, oo, List.getD_eq_getElem?_getD, List.getElem?_set_self lo] at h1
      exact h1
  · right
    exact fun t ht e => c ⟨t, ht, e⟩
theorem spL_top {f : Nat → Rat} (h : spL 4 f ≠ []) : ∃ top, top ≤ 3 ∧ f top ≠ 0 ∧ spL 4 f = spL (top + 1) f := by
  by_cases c3 : f 3 = 0
  · by_cases c2 : f 2 = 0
    · by_cases c1 : f 1 = 0
      · by_cases c0 : f 0 = 0
        · refine absurd ?_ h
          rw [spL_succ, if_pos c3, spL_succ, if_pos c2, spL_succ, if_pos c1, spL_succ, if_pos c0]
          rfl
        · exact ⟨0, by decide, c0, by rw [spL_succ, if_pos c3, spL_succ, if_pos c2, spL_succ, if_pos c1]⟩
      · exact ⟨1, by decide, c1, by rw [spL_succ, if_pos c3, spL_succ, if_pos c2]⟩
    · exact ⟨2, by decide, c2, by rw [spL_succ, if_pos c3]⟩
  · exact ⟨3, by decide, c3, rfl⟩
/-! ### values by rows -/
def rsV (y : Rat) (l : List (Int × Rat)) : Rat := l.foldr (fun u s => u.2 * y ^ u.1.toNat + s) 0
theorem rsV_app {y : Rat} : ∀ (l m : List (Int × Rat)), rsV y (l ++ m) = rsV y l + rsV y m
  | [], m => (Rat.zero_add _).symm
  | u :: l, m => by
    show _ + rsV y (l ++ m) = _ + rsV y l + _
    rw [rsV_app l m, Rat.add_assoc]
theorem rsV_sp {y : Rat} {f : Nat → Rat} : ∀ N, rsV y (spL N f) = hr f y 0 N
  | 0 => rfl
  | N + 1 => by
    have hs : hr f y 0 (N + 1) = hr f y 0 N + y ^ N * f (0 + N) := by
      have : ∀ {s c : Nat}, hr f y s (c + 1) = hr f y s c + y ^ c * f (s + c) := fun {s c} => by
        induction c generalizing s with
        | zero =>
          show f s + y * (0 : Rat) = 0 + y ^ 0 * f (s + 0)
          rw [Rat.pow_zero, Nat.add_zero]; grind
        | succ c ih =>
          rw [hr, ih, hr, Rat.pow_succ, show s + 1 + c = s + (c + 1) by omega]; grind
      exact this
    rw [spL_succ, hs, Nat.zero_add]
    by_cases c : f N = 0
    · rw [if_pos c, rsV_sp N, c, Rat.mul_zero, Rat.add_zero]
    · rw [if_neg c, rsV_app, rsV_sp N]
      show _ + (f N * y ^ ((N : Int)).toNat + 0) = _
      rw [Int.toNat_natCast]
      grind
theorem tv_split {n k : Nat} {B : Int} {c : Rat} {e : List Int} {pt : List Rat} (he : EB n B e) (hk : k < n) : ∀ j, j ≤ n → tv c e pt j = (if k < j then pt.getD k 0 ^ (e.getD k 0).toNat else 1) * tv c (oth k e) pt j
  | 0, _ => by rw [if_neg (by omega), Rat.one_mul]; rfl
  | j + 1, h => by
    rw [tv, tv, tv_split he hk j (by omega)]
    by_cases d : j = k
    · subst d
      have z : (oth j e).getD j 0 = 0 := by
        unfold oth
        rw [List.getD_eq_getElem?_getD, List.getElem?_set_self (by rw [he.1]; exact hk)]
        rfl
      rw [if_neg (by omega), if_pos (by omega), z]
      show _ = _ * (_ * _ ^ 0)
      rw [Rat.pow_zero]
      grind
    · have z : (oth k e).getD j 0 = e.getD j 0 := by
        unfold oth
        rw [List.getD_eq_getElem?_getD, List.getElem?_set_ne (fun q => d q.symm), List.getD_eq_getElem?_getD]
      rw [z]
      by_cases d2 : k < j
      · rw [if_pos d2, if_pos (by omega)]; grind
      · rw [if_neg d2, if_neg (by omega)]; grind
theorem tv_one {c : Rat} {e : List Int} {pt : List Rat} (j : Nat) : tv c e pt j = c * tv 1 e pt j := by
  have := tv_mul (c := c) (d := 1) (e := e) (pt := pt) j
  rwa [Rat.mul_one] at this
theorem tv_row {n k : Nat} {B : Int} {c : Rat} {e : List Int} {pt : List Rat} (he : EB n B e) (hk : k < n) : tv c e pt n = tv 1 (oth k e) pt n * (c * pt.getD k 0 ^ (e.getD k 0).toNat) := by
  rw [tv_split he hk n (Nat.le_refl _), if_pos hk, tv_one (c := c)]
  grind
def sumO (G : List (List Int)) (F : List Int → Rat) : Rat := G.foldr (fun o s => F o + s) 0
theorem sumO_congr {F F' : List Int → Rat} : ∀ {G : List (List Int)}, (∀ o ∈ G, F o = F' o) → sumO G F = sumO G F'
  | [], _ => rfl
  | o :: G, h => by
    show F o + sumO G F = F' o + sumO G F'
    rw [h o List.mem_cons_self, sumO_congr fun o' ho => h o' (List.mem_cons_of_mem _ ho)]
theorem sumO_add {F F' : List Int → Rat} : ∀ {G : List (List Int)}, sumO G (fun o => F o + F' o) = sumO G F + sumO G F'
  | [] => (Rat.add_zero _).symm
  | o :: G => by
    show F o + F' o + sumO G _ = (F o + sumO G F) + (F' o + sumO G F')
    rw [sumO_add]
    grind
theorem sumO_zero : ∀ {G : List (List Int)}, sumO G (fun _ => 0) = 0
  | [] => rfl
  | o :: G => by
    show (0 : Rat) + sumO G _ = 0
    rw [sumO_zero, Rat.add_zero]
theorem sumO_one {o0 : List Int} {c : List Int → Rat} : ∀ {G : List (List Int)}, G.Nodup → o0 ∈ G → sumO G (fun o => if o0 = o then c o else 0) = c o0
  | [], _, h => by cases h
  | o :: G, hn, h => by
    have hn' := List.nodup_cons.mp hn
    show (if o0 = o then c o else 0) + sumO G _ = _
    by_cases e : o0 = o
    · subst e
      have : sumO G (fun o => if o0 = o then c o else 0) = 0 := by
        rw [sumO_congr (F' := fun _ => 0) fun o' ho => if_neg (fun z => hn'.1 (by rw [show o0 = o' from z]; exact ho)), sumO_zero]
      rw [if_pos rfl, this, Rat.add_zero]
    · rw [if_neg e, sumO_one hn'.2 ((List.mem_cons.mp h).resolve_left e), Rat.zero_add]
/-- the value of a polynomial, by its rows -/
theorem vs_rows {n k : Nat} {B : Int} {pt : List Rat} {G : List (List Int)} (hn : G.Nodup) (hk : k < n) : ∀ {p : Pol}, PK n B p → (∀ t ∈ p, oth k t.1 ∈ G) → vs n pt p = sumO G fun o => tv 1 o pt n * rsV (pt.getD k 0) (rowOf k o p)
  | [], _, _ => by
    exact (sumO_zero (G := G)).symm.trans (sumO_congr fun o _ => (Rat.mul_zero _).symm)
  | t :: p, h, hG => by
    have te := h t.1 List.mem_cons_self
    rw [vs_cons, vs_rows hn hk (fun e he => h e (List.mem_cons_of_mem _ he)) fun u hu => hG u (List.mem_cons_of_mem _ hu), tv_row te hk]
    have e1 := sumO_one (c := fun o => tv 1 o pt n * (t.2 * pt.getD k 0 ^ (t.1.getD k 0).toNat)) hn (hG t List.mem_cons_self)
    rw [← e1, ← sumO_add]
    refine sumO_congr fun o _ => ?_
    rw [rowOf_cons]
    by_cases c : oth k t.1 = o
    · rw [if_pos c, if_pos c]
      show _ = _ * (_ + rsV _ (rowOf k o p))
      grind
    · rw [if_neg c, if_neg c, Rat.zero_add]
/-! ### how many exponents there are -/
def bxE : Nat → List (List Int)
  | 0 => [[]]
  | n + 1 => (bxE n).map (fun e => 0 :: e) ++ (bxE n).map (fun e => 1 :: e) ++ (bxE n).map (fun e => 2 :: e) ++ (bxE n).map (fun e => 3 :: e)
theorem bxE_len : ∀ n, (bxE n).length = 4 ^ n
  | 0 => rfl
  | n + 1 => by
    unfold bxE
    rw [List.length_append, List.length_append, List.length_append, List.length_map, List.length_map, List.length_map, List.length_map, bxE_len n, Nat.pow_succ]
    omega
theorem mem_bxE : ∀ {n : Nat} {e : List Int}, EB n 4 e → e ∈ bxE n
  | 0, [], _ => List.mem_singleton.mpr rfl
  | 0, _ :: _, h => by have := h.1; simp at this
  | n + 1, [], h => by have := h.1; simp at this
  | n + 1, i :: e, h => by
    have b := h.2.head
    have he : e ∈ bxE n := mem_bxE ⟨by have := h.1; simpa using this, h.2.tail⟩
    unfold bxE
    have hi : i = 0 ∨ i = 1 ∨ i = 2 ∨ i = 3 := by omega
    rw [List.mem_append, List.mem_append, List.mem_append]
    rcases hi with rfl | rfl | rfl | rfl
    · exact .inl (.inl (.inl (List.mem_map.mpr ⟨e, he, rfl⟩)))
    · exact .inl (.inl (.inr (List.mem_map.mpr ⟨e, he, rfl⟩)))
    · exact .inl (.inr (List.mem_map.mpr ⟨e, he, rfl⟩))
    · exact .inr (List.mem_map.mpr ⟨e, he, rfl⟩)
theorem len_256 {n : Nat} {p : Pol} (hn : n ≤ 4) (hp : WF n p) (pk : PK n 4 p) : p.length ≤ 256 := by
  have := pigeon (keysA p) (bxE n) hp.nodup fun e he => mem_bxE (pk e he)
  rw [bxE_len] at this
  unfold keysA at this
  rw [List.length_map] at this
  exact Nat.le_trans this (Nat.pow_le_pow_right (by decide) hn)
end Gn

set_option maxHeartbeats 2000000
namespace Gn
open PySem PySem.Spec PyProof.Rows L2 Rf
local macro_rules
  | `(tactic| infer_instance) => `(tactic| with_reducible first
    | apply ws_seq
    | apply ws_ret
    | apply ws_if
    | apply ws_ex
    | apply ws_asg
    | apply ws_par
    | apply ws_dput
    | apply ws_lput
    | apply ws_nil
    | apply ws_retN
    | apply s0
    | apply s1
    | apply s2
    | apply s3
    | apply s4
    | apply s5
    | apply s6
    | apply s7
    | apply s8
    | apply s9
    | apply s10
    | apply s11
    | apply s12
    | apply s13
    | apply s14
    | apply s15
    | apply s16
    | apply s17
    | apply s18
    | apply s19
    | apply s20
    | apply s21
    | apply s22
    | apply s23
    | apply s24
    | apply s25
    | apply wv_op
    | apply wv_un
    | apply wv_bi
    | apply wv_call
    | apply wv_call0
    | apply wv_tup
    | apply wv_lst
    | apply wv_cons
    | apply wv_nil
    | apply wv_T
    | apply wv_tru
    | apply wv_not
    | apply wv_and
    | apply wv_or
    | apply wv_if
    | apply wv_andV
    | apply wv_orV
    | apply wv_yes
    | apply wv_ret
    | apply wv_app
    | apply wv_dget
    | apply wv_dget2
    | apply wv_din
    | apply wv_dct1
    | apply wv_dct0
    | apply wv_sx2
    | apply wv_sxH
    | apply wv_sxL
    | apply exI
    | apply v0
    | apply v1
    | apply v2
    | apply v3
    | apply v4
    | apply v5
    | apply v6
    | apply v7
    | apply v8
    | apply v9
    | apply v10
    | apply v11
    | apply v12
    | apply v13
    | apply v14
    | apply v15
    | apply v16
    | apply v17
    | apply v18
    | apply v19
    | apply v20
    | apply v21
    | apply v22
    | apply v23
    | apply v24
    | apply v25
    | apply g_add
    | apply g_sub
    | apply g_iadd
    | apply g_isub
    | apply g_lt
    | apply g_le
    | apply g_gt
    | apply g_ge
    | apply g_eq
    | apply g_ne
    | apply g_neg
    | apply g_not
    | apply g_gcd
    | apply g_abs
    | apply g_int
    | apply g_intb
    | apply g_nq0
    | apply g_nq1
    | apply g_ix0
    | apply g_ix1
    | apply g_ix2
    | apply g_lenT
    | apply exT
    | apply exTru
    | apply ifT
    | apply ifF
    | apply ifT'
    | apply ifF'
    | apply nf1
    | apply nf2
    | apply nf3
    | apply nf4
    | apply len0
    | apply len1
    | apply len2
    | apply len3
    | apply len4
    )
/-! ### the program's moved polynomial: rows by the other exponents -/
def rD (u : Int × Rat) : D := .tup [.int u.1, nq u.2]
structure GI (k z : Nat) (q : Pol) (gs : Tab Nat) (S : Sto) : Prop where
  nd : (keysA gs).Nodup
  ref : ∀ u ∈ gs, z < u.2 ∧ S[u.2]? = some (.lst ((rowOf k u.1 q).map rD))
  ndr : (gs.map (·.2)).Nodup
  cov : ∀ t ∈ q, oth k t.1 ∈ keysA gs
  src : ∀ o ∈ keysA gs, ∃ t ∈ q, oth k t.1 = o
theorem same_ref {gs : Tab Nat} (h : (gs.map (·.2)).Nodup) {u v : List Int × Nat} (hu : u ∈ gs) (hv : v ∈ gs) (e : u.2 = v.2) : u = v := by
  induction gs with
  | nil => cases hu
  | cons w gs ih =>
    have hn := List.nodup_cons.mp (show (w.2 :: gs.map (·.2)).Nodup from h)
    rcases List.mem_cons.mp hu with e1 | hu2
    · rcases List.mem_cons.mp hv with e2 | hv2
      · rw [e1, e2]
      · exact (hn.1 (List.mem_map.mpr ⟨v, hv2, by rw [← e, e1]⟩)).elim
    · rcases List.mem_cons.mp hv with e2 | hv2
      · exact (hn.1 (List.mem_map.mpr ⟨u, hu2, by rw [e, e2]⟩)).elim
      · exact ih hn.2 hu2 hv2
theorem rowOf_none {k : Nat} {o : List Int} : ∀ {q : Pol}, (∀ t ∈ q, oth k t.1 ≠ o) → rowOf k o q = []
  | [], _ => rfl
  | t :: q, h => by rw [rowOf_cons, if_neg (h t List.mem_cons_self), rowOf_none fun u hu => h u (List.mem_cons_of_mem _ hu)]
theorem GI.hit {k z : Nat} {q : Pol} {gs : Tab Nat} {S : Sto} (g : GI k z q gs S) {t : List Int × Rat} {li : Nat} (h : lookA gs (oth k t.1) = some li) (d : D) (hd : d = rD (t.1.getD k 0, t.2)) {S2 : Sto} (hk : Keep S S2) : GI k z (q ++ [t]) gs (S2.set li (.lst ((rowOf k (oth k t.1) q).map rD ++ [d]))) := by
  have hm := lookA_mem h
  refine ⟨g.nd, fun u hu => ⟨(g.ref u hu).1, ?_⟩, g.ndr, fun t' ht' => ?_, fun o ho => ?_⟩
  · by_cases c : u.2 = li
    · have := same_ref g.ndr hu hm c
      subst this
      rw [List.getElem?_set_self (lt_of_get (hk _ _ (g.ref _ hu).2)), rowOf_snoc, if_pos rfl, List.map_append, hd]
      rfl
    · have ne : oth k t.1 ≠ u.1 := fun e => c (by
        have h2 := lookA_of g.nd (show (u.1, u.2) ∈ gs from hu)
        rw [e, h2] at h
        exact Option.some.inj h)
      rw [List.getElem?_set_ne (fun e => c e.symm), rowOf_snoc, if_neg ne]
      exact hk _ _ (g.ref u hu).2
  · rcases List.mem_append.mp ht' with h1 | h1
    · exact g.cov _ h1
    · rw [List.mem_singleton.mp h1]
      exact List.mem_map.mpr ⟨_, hm, rfl⟩
  · obtain ⟨t', ht', e⟩ := g.src o ho
    exact ⟨t', List.mem_append.mpr (.inl ht'), e⟩
theorem GI.miss {k z : Nat} {q : Pol} {gs : Tab Nat} {S : Sto} (g : GI k z q gs S) {t : List Int × Rat} (h : lookA gs (oth k t.1) = none) (d : D) (hd : d = rD (t.1.getD k 0, t.2)) {S2 : Sto} (hz : z < S.length) (hk : ∀ u ∈ gs, S2[u.2]? = S[u.2]?) (hl : S.length < S2.length) : GI k z (q ++ [t]) (gs ++ [(oth k t.1, S.length)]) (S2.set S.length (.lst ([] ++ [d]))) := by
  have hn := lookA_none.mp h
  have noq : ∀ t' ∈ q, oth k t'.1 ≠ oth k t.1 := fun t' ht' e => hn (by rw [← e]; exact g.cov t' ht')
  have lt : ∀ u ∈ gs, u.2 < S.length := fun u hu => lt_of_get (g.ref u hu).2
  refine ⟨?_, fun u hu => ?_, ?_, fun t' ht' => ?_, fun o ho => ?_⟩
  · show ((gs ++ [(oth k t.1, S.length)]).map (·.1)).Nodup
    rw [List.map_append, List.nodup_append]
    refine ⟨g.nd, by simp, fun a ha b hb e => hn ?_⟩
    rw [List.mem_singleton.mp hb] at e
    have e2 : a = oth k t.1 := e
    rw [← e2]
    exact ha
  · rcases List.mem_append.mp hu with h1 | h1
    · refine ⟨(g.ref u h1).1, ?_⟩
      have ne : oth k t.1 ≠ u.1 := fun e => hn (by rw [e]; exact List.mem_map.mpr ⟨u, h1, rfl⟩)
      rw [List.getElem?_set_ne (by have := lt u h1; omega), rowOf_snoc, if_neg ne, hk u h1]
      exact (g.ref u h1).2
    · rw [List.mem_singleton.mp h1]
      refine ⟨hz, ?_⟩
      show (S2.set S.length _)[S.length]? = _
      rw [List.getElem?_set_self hl, rowOf_snoc, if_pos rfl, rowOf_none noq, hd]
      rfl
  · rw [List.map_append, List.nodup_append]
    refine ⟨g.ndr, by simp, fun a ha b hb e => ?_⟩
    obtain ⟨u, hu, rfl⟩ := List.mem_map.mp ha
    rw [List.mem_singleton.mp hb] at e
    have := lt u hu
    have : u.2 = S.length := e
    omega
  · show _ ∈ (gs ++ [(oth k t.1, S.length)]).map (·.1)
    rw [List.map_append]
    rcases List.mem_append.mp ht' with h1 | h1
    · exact List.mem_append.mpr (.inl (g.cov _ h1))
    · rw [List.mem_singleton.mp h1]
      exact List.mem_append.mpr (.inr (List.mem_singleton.mpr rfl))
  · have ho : o ∈ (gs ++ [(oth k t.1, S.length)]).map (·.1) := ho
    rw [List.map_append] at ho
    rcases List.mem_append.mp ho with h1 | h1
    · obtain ⟨t', ht', e⟩ := g.src o h1
      exact ⟨t', List.mem_append.mpr (.inl ht'), e⟩
    · have : o = oth k t.1 := List.mem_singleton.mp h1
      exact ⟨t, List.mem_append.mpr (.inr (List.mem_singleton.mpr rfl)), this.symm⟩
theorem dct_len {α : Type} {f : α → D} {T : Tab α} : (tabD f T).length = T.length := by unfold tabD; rw [List.length_map]
theorem GI.len {k z : Nat} {q : Pol} {gs : Tab Nat} {S : Sto} (g : GI k z q gs S) : gs.length ≤ q.length := by
  have := pigeon (keysA gs) (q.map fun t => oth k t.1) g.nd fun o ho => by
    obtain ⟨t, ht, e⟩ := g.src o ho
    exact List.mem_map.mpr ⟨t, ht, e⟩
  unfold keysA at this
  rw [List.length_map, List.length_map] at this
  exact this
/-- the first loop: the rows -/
theorem w_rows {p : Pol} {n k : Nat} {x : Rat} (hk : k < n) (hn : n ≤ 4) (pk : PK n 4 p) (pl : p.length ≤ 2000) {S S0 : Sto} {rest : MS} {x4 x5 x6 x7 x8 x9 x10 : Option D} {N B C : Rf.Env → Sto → Prop} {T : D → Sto → Prop} (hS : Keep S S0) (hz : S0[S.length]? = some (.dct []))
    (q : ∀ gs S1 y4 y5 y6, GI k S.length p gs S1 → Keep S S1 → S1[S.length]? = some (.dct (tabD D.ref gs)) → N [some (polD p), some (.int (k : Int)), some (nq x), some (.ref S.length), y4, y5, y6, x7, x8, x9, x10] S1) :
    WS (sFor (tTp 2 (tCons' (tN 4) (tCons' (tN 5) tNil'))) (mSeq (mVar 0)) L0__moved_along [some (polD p), some (.int (k : Int)), some (nq x), some (.ref S.length), x4, x5, x6, x7, x8, x9, x10] S0) N T B C := by
  refine ws_for (p.map termD) (fun j ρ S1 => ∃ (gs : Tab Nat) (y4 y5 y6 : Option D), GI k S.length (p.take j) gs S1 ∧ Keep S S1 ∧ S1[S.length]? = some (.dct (tabD D.ref gs)) ∧ ρ = [some (polD p), some (.int (k : Int)), some (nq x), some (.ref S.length), y4, y5, y6, x7, x8, x9, x10]) (by rw [List.length_map]; omega) ?_ (fun j y ρ S1 hy hI => ?_) (fun ρ S1 hI => ?_)
  · refine wv_seq ?_
    repeat infer_instance
    exact ⟨_, rfl, ⟨[], _, _, _, ⟨List.nodup_nil, fun u hu => (nomatch hu), List.nodup_nil, fun t ht => (nomatch ht), fun o ho => (nomatch ho)⟩, hS, hz, rfl⟩, fun _ _ _ _ => sqIs_it⟩
  · obtain ⟨gs, y4, y5, y6, g, k1, hd, rfl⟩ := hI
    rw [List.getElem?_map] at hy
    obtain ⟨t, ht', rfl⟩ := Option.map_eq_some_iff.mp hy
    have hj := get_lt ht'
    have hm := List.mem_of_getElem? ht'
    have te := pk t.1 (List.mem_map.mpr ⟨t, hm, rfl⟩)
    have gl := g.len
    rw [List.length_take] at gl
    refine ⟨_, unp_d, ?_⟩
    unfold L0__moved_along
    simp only [set0, setS]
    repeat infer_instance
    refine w_with (by rw [te.1]; exact hk) (by rw [te.1]; omega) ?_
    repeat infer_instance
    have hlen := lt_of_get hd
    obtain ⟨ge, ge0, ge4⟩ := getE te hk
    refine wv_setd ?_
    repeat infer_instance
    refine ⟨⟨_, by unfold dctOf; dsimp only; rw [hd]⟩, ?_⟩
    repeat infer_instance
    refine ⟨S.length, _, _, _, keyL (oth k t.1), rfl, rfl, Keep.app _ _ _ _ hd, keyD_tupI _, by rw [dct_len]; omega, fun d hv => ?_, fun hv => ?_⟩
    · rw [valD_tab] at hv
      obtain ⟨li, hli, rfl⟩ := Option.map_eq_some_iff.mp hv
      have hr := Keep.app S1 [O.lst []] _ _ (g.ref _ (lookA_mem hli)).2
      refine ⟨li, _, rfl, hr, ?_⟩
      repeat infer_instance
      refine g_ixT (k := k) (by rw [List.getElem?_map, ge]; rfl) ?_
      repeat infer_instance
      have hrl : (rowOf k (oth k t.1) (p.take j)).length ≤ (p.take j).length := List.length_filterMap_le _ _
      rw [List.length_take] at hrl
      refine ⟨_, hr, by show ((rowOf k (oth k t.1) (p.take j)).map rD).length < 1000000; rw [List.length_map]; omega, ?_⟩
      have zl := (g.ref _ (lookA_mem hli)).1
      have g' := g.hit hli (rD (t.1.getD k 0, t.2)) rfl (Keep.app S1 [O.lst []])
      rw [← take_next ht'] at g'
      refine ⟨gs, _, _, _, g', (k1.trans (Keep.app _ _)).put (by omega) _, ?_, rfl⟩
      show (List.set _ li _)[S.length]? = _
      rw [List.getElem?_set_ne (by have : S.length < li := zl; omega)]
      exact Keep.app _ _ _ _ hd
    · rw [valD_tab] at hv
      have hno : lookA gs (oth k t.1) = none := by
        cases hq : lookA gs (oth k t.1) with
        | none => rfl
        | some v => rw [hq] at hv; cases hv
      rw [putD_tab, put_new (lookA_none.mp hno)]
      have hz2 : S.length ≠ S1.length := by omega
      have g1 : ((S1 ++ [O.lst []]).set S.length (.dct (tabD D.ref (gs ++ [(oth k t.1, S1.length)]))))[S1.length]? = some (.lst []) := by
        rw [List.getElem?_set_ne hz2]
        exact get_new
      refine ⟨S1.length, [], rfl, g1, ?_⟩
      repeat infer_instance
      refine g_ixT (k := k) (by rw [List.getElem?_map, ge]; rfl) ?_
      repeat infer_instance
      refine ⟨[], g1, by decide, ?_⟩
      have g' := g.miss hno (rD (t.1.getD k 0, t.2)) rfl (S2 := (S1 ++ [O.lst []]).set S.length (.dct (tabD D.ref (gs ++ [(oth k t.1, S1.length)])))) hlen (fun u hu => by
        have hu2 := g.ref u hu
        have := hu2.1
        rw [List.getElem?_set_ne (by omega), hu2.2]
        exact Keep.app _ _ _ _ hu2.2) (by rw [List.length_set, List.length_append]; show _ < _ + 1; omega)
      rw [← take_next ht'] at g'
      refine ⟨gs ++ [(oth k t.1, S1.length)], _, _, _, g', ((k1.trans (Keep.app _ _)).put (Nat.le_refl _) _).put (by omega) _, ?_, rfl⟩
      rw [List.getElem?_set_ne (by omega), List.getElem?_set_self (by rw [List.length_append]; omega)]
  · obtain ⟨gs, y4, y5, y6, g, k1, hd, rfl⟩ := hI
    rw [List.length_map, List.take_length] at g
    exact q gs S1 y4 y5 y6 g k1 hd
end Gn

set_option maxHeartbeats 2000000
namespace Gn
open PySem PySem.Spec PyProof.Rows L2 Rf
/-! ### the table of the moved polynomial -/
def topF (f : Nat → Rat) : Nat := if f 3 ≠ 0 then 3 else if f 2 ≠ 0 then 2 else if f 1 ≠ 0 then 1 else 0
theorem topF_le {f : Nat → Rat} : topF f ≤ 3 := by
  unfold topF
  split
  · exact Nat.le_refl _
  · split
    · decide
    · split <;> decide
theorem topF_ok {f : Nat → Rat} (h : spL 4 f ≠ []) : f (topF f) ≠ 0 ∧ spL 4 f = spL (topF f + 1) f := by
  unfold topF
  by_cases c3 : f 3 = 0
  · rw [if_neg (fun z => z c3)]
    by_cases c2 : f 2 = 0
    · rw [if_neg (fun z => z c2)]
      by_cases c1 : f 1 = 0
      · rw [if_neg (fun z => z c1)]
        by_cases c0 : f 0 = 0
        · refine absurd ?_ h
          rw [spL_succ, if_pos c3, spL_succ, if_pos c2, spL_succ, if_pos c1, spL_succ, if_pos c0]
          rfl
        · exact ⟨c0, by rw [spL_succ, if_pos c3, spL_succ, if_pos c2, spL_succ, if_pos c1]⟩
      · rw [if_pos c1]
        exact ⟨c1, by rw [spL_succ, if_pos c3, spL_succ, if_pos c2]⟩
    · rw [if_pos c2]
      exact ⟨c2, by rw [spL_succ, if_pos c3]⟩
  · rw [if_pos c3]
    exact ⟨c3, rfl⟩
theorem sp_map {f : Nat → Rat} : ∀ N, (spL N f).map rD = (spP N f).map rowT
  | 0 => rfl
  | N + 1 => by
    rw [spL_succ, spP_succ]
    by_cases c : f N = 0
    · rw [if_pos c, if_pos c, List.append_nil, sp_map N]
    · rw [if_neg c, if_neg c, List.map_append, List.map_append, sp_map N]
      rfl
def bF (h : Nat → Rat) : Nat := bel (spP (topF h + 1) h)
def wF (h : Nat → Rat) (x : Rat) (e : Nat) : Int × Int := (mvI h x (bF h) (topF h) e, ((bF h : Nat) : Int) * (x.den : Int) ^ (topF h - e))
def rowM (p : Pol) (k : Nat) (x : Rat) (o : List Int) (l : Nat) : Tab NP := (List.range l).map fun (e : Nat) => (o.set k (e : Int), (wF (hO p k o) x e, false))
theorem rowM_succ {p : Pol} {k : Nat} {x : Rat} {o : List Int} {l : Nat} : rowM p k x o (l + 1) = rowM p k x o l ++ [(o.set k (l : Int), (wF (hO p k o) x l, false))] := by
  unfold rowM
  rw [List.range_succ, List.map_append]; rfl
def TT (p : Pol) (k : Nat) (x : Rat) (G : List (List Int)) : Tab NP := G.flatMap fun o => rowM p k x o (topF (hO p k o) + 1)
theorem TT_snoc {p : Pol} {k : Nat} {x : Rat} {G : List (List Int)} {o : List Int} : TT p k x (G ++ [o]) = TT p k x G ++ rowM p k x o (topF (hO p k o) + 1) := by
  unfold TT
  rw [List.flatMap_append, List.flatMap_cons]
  show _ ++ (_ ++ []) = _
  rw [List.append_nil]
theorem TT_len {p : Pol} {k : Nat} {x : Rat} : ∀ {G : List (List Int)}, (TT p k x G).length ≤ 4 * G.length
  | [] => Nat.le_refl _
  | o :: G => by
    unfold TT
    rw [List.flatMap_cons, List.length_append]
    have := TT_len (p := p) (k := k) (x := x) (G := G)
    unfold TT at this
    have h := topF_le (f := hO p k o)
    unfold rowM
    rw [List.length_map, List.length_range, List.length_cons]
    unfold rowM at this
    omega
theorem rowM_key {p : Pol} {k : Nat} {x : Rat} {o : List Int} {l : Nat} {e : List Int} (h : e ∈ keysA (rowM p k x o l)) : ∃ i : Nat, i < l ∧ e = o.set k (i : Int) := by
  obtain ⟨t, ht, rfl⟩ := List.mem_map.mp h
  obtain ⟨i, hi, rfl⟩ := List.mem_map.mp ht
  exact ⟨i, List.mem_range.mp hi, rfl⟩
theorem TT_key {p : Pol} {k : Nat} {x : Rat} {G : List (List Int)} {e : List Int} (h : e ∈ keysA (TT p k x G)) : ∃ o ∈ G, ∃ i : Nat, i ≤ topF (hO p k o) ∧ e = o.set k (i : Int) := by
  obtain ⟨t, ht, rfl⟩ := List.mem_map.mp h
  obtain ⟨o, ho, ht⟩ := List.mem_flatMap.mp ht
  obtain ⟨i, hi, rfl⟩ := List.mem_map.mp ht
  exact ⟨o, ho, i, by have := List.mem_range.mp hi; omega, rfl⟩
theorem set_inj {k : Nat} {o o' : List Int} {i j : Int} (h : oth k o = o) (h' : oth k o' = o') (e : o.set k i = o'.set k j) : o = o' := by
  have := congrArg (oth k) e
  unfold oth at this h h'
  rw [List.set_set, List.set_set, h, h'] at this
  exact this
theorem key_new {p : Pol} {k : Nat} {x : Rat} {G : List (List Int)} {o : List Int} {l : Nat} (hl : k < o.length) (hG : ∀ o' ∈ G, oth k o' = o') (ho : oth k o = o) (hn : o ∉ G) : o.set k (l : Int) ∉ keysA (TT p k x G ++ rowM p k x o l) := fun h => by
  unfold keysA at h
  rw [List.map_append] at h
  rcases List.mem_append.mp h with h | h
  · obtain ⟨o', ho', i, _, e⟩ := TT_key h
    exact hn (set_inj ho (hG o' ho') e ▸ ho')
  · obtain ⟨i, hi, e⟩ := rowM_key h
    have := congrArg (fun a : List Int => a[k]?) e
    have h2 : (o.set k (l : Int))[k]? = (o.set k (i : Int))[k]? := this
    rw [List.getElem?_set_self hl, List.getElem?_set_self hl] at h2
    have := Option.some.inj h2
    omega
theorem TT_nodup {p : Pol} {k : Nat} {x : Rat} : ∀ {G : List (List Int)}, G.Nodup → (∀ o ∈ G, oth k o = o ∧ k < o.length) → (keysA (TT p k x G)).Nodup
  | [], _, _ => List.nodup_nil
  | o :: G, hn, h => by
    have hn' := List.nodup_cons.mp hn
    have ih := TT_nodup (p := p) (k := k) (x := x) hn'.2 fun o' ho' => h o' (List.mem_cons_of_mem _ ho')
    have ho := h o List.mem_cons_self
    have e : TT p k x (o :: G) = rowM p k x o (topF (hO p k o) + 1) ++ TT p k x G := by
      unfold TT
      rw [List.flatMap_cons]
    rw [e]
    unfold keysA at ih ⊢
    rw [List.map_append, List.nodup_append]
    refine ⟨?_, ih, fun a ha b hb eab => ?_⟩
    · generalize topF (hO p k o) + 1 = l
      induction l with
      | zero => exact List.nodup_nil
      | succ l ihl =>
        rw [rowM_succ, List.map_append, List.nodup_append]
        refine ⟨ihl, by simp, fun a ha b hb eab => ?_⟩
        obtain ⟨i, hi, e⟩ := rowM_key (show a ∈ keysA (rowM p k x o l) from ha)
        have eb : b = o.set k (l : Int) := List.mem_singleton.mp hb
        rw [eab, eb] at e
        have h2 := congrArg (fun a : List Int => a[k]?) e
        have h2 : (o.set k (l : Int))[k]? = (o.set k (i : Int))[k]? := h2
        rw [List.getElem?_set_self ho.2, List.getElem?_set_self ho.2] at h2
        have := Option.some.inj h2
        omega
    · obtain ⟨i, hi, e1⟩ := rowM_key (show a ∈ keysA (rowM p k x o _) from ha)
      obtain ⟨o', ho', i', _, e2⟩ := TT_key (show b ∈ keysA (TT p k x G) from hb)
      rw [eab, e2] at e1
      have := set_inj (h o' (List.mem_cons_of_mem _ ho')).1 ho.1 e1
      exact hn'.1 (this ▸ ho')
theorem tv_indep {k : Nat} {o : List Int} {v : Rat} {pt : List Rat} (h : oth k o = o) (hk : k < o.length) : ∀ j, tv 1 o (pt.set k v) j = tv 1 o pt j
  | 0 => rfl
  | j + 1 => by
    rw [tv, tv, tv_indep h hk j]
    by_cases c : j = k
    · subst c
      have z : o.getD j 0 = 0 := by
        rw [← h]
        unfold oth
        rw [List.getD_eq_getElem?_getD, List.getElem?_set_self hk]
        rfl
      rw [z]
      show _ * _ ^ 0 = _ * _ ^ 0
      rw [Rat.pow_zero, Rat.pow_zero]
    · congr 2
      rw [List.getD_eq_getElem?_getD, List.getElem?_set_ne (fun e => c e.symm), List.getD_eq_getElem?_getD]
theorem vs_rowM {n k : Nat} {p : Pol} {x : Rat} {o : List Int} {pt : List Rat} (ho : oth k o = o) (hl : EB n 4 o) (hk : k < n) : ∀ l, l ≤ 4 → vs n pt (ratT (rowM p k x o l)) = tv 1 o pt n * hr (mvH (hO p k o) x (bF (hO p k o)) (topF (hO p k o))) (pt.getD k 0) 0 l
  | 0, _ => (Rat.mul_zero _).symm
  | l + 1, h => by
    have kl : k < o.length := by rw [hl.1]; exact hk
    have eb : EB n 4 (o.set k (l : Int)) := ⟨by rw [List.length_set]; exact hl.1, fun m hm => by
      rcases List.mem_or_eq_of_mem_set hm with h1 | h1
      · exact hl.2 m h1
      · omega⟩
    have oo : oth k (o.set k (l : Int)) = o := by
      have := ho
      unfold oth at this ⊢
      rw [List.set_set, this]
    have hs : ∀ {f : Nat → Rat} {y : Rat} {s c : Nat}, hr f y s (c + 1) = hr f y s c + y ^ c * f (s + c) := fun {f y s c} => by
      induction c generalizing s with
      | zero =>
        show f s + y * (0 : Rat) = 0 + y ^ 0 * f (s + 0)
        rw [Rat.pow_zero, Nat.add_zero]; grind
      | succ c ih =>
        rw [hr, ih, hr, Rat.pow_succ, show s + 1 + c = s + (c + 1) by omega]; grind
    rw [rowM_succ, ratT_snoc, vs_snoc, vs_rowM ho hl hk l (by omega), hs, Nat.zero_add, tv_row eb hk, oo]
    have g : (o.set k (l : Int)).getD k 0 = (l : Int) := by
      rw [List.getD_eq_getElem?_getD, List.getElem?_set_self kl]
      rfl
    rw [g, Int.toNat_natCast]
    have ev : valP (wF (hO p k o) x l) = mvH (hO p k o) x (bF (hO p k o)) (topF (hO p k o)) l := rfl
    show _ + _ * (valP (wF (hO p k o) x l) * _) = _
    rw [ev]
    grind
theorem vs_TT {n k : Nat} {p : Pol} {x : Rat} {pt : List Rat} (hk : k < n) : ∀ {G : List (List Int)}, (∀ o ∈ G, oth k o = o ∧ EB n 4 o) → vs n pt (ratT (TT p k x G)) = sumO G fun o => tv 1 o pt n * hr (mvH (hO p k o) x (bF (hO p k o)) (topF (hO p k o))) (pt.getD k 0) 0 (topF (hO p k o) + 1)
  | [], _ => rfl
  | o :: G, h => by
    have e : TT p k x (o :: G) = rowM p k x o (topF (hO p k o) + 1) ++ TT p k x G := by
      unfold TT
      rw [List.flatMap_cons]
    have ho := h o List.mem_cons_self
    rw [e, ratT_app, vs_app, vs_rowM ho.1 ho.2 hk _ (by have := topF_le (f := hO p k o); omega), vs_TT hk fun o' ho' => h o' (List.mem_cons_of_mem _ ho')]
    rfl
end Gn

set_option maxHeartbeats 4000000
namespace Gn
open PySem PySem.Spec PyProof.Rows L2 Rf
local macro_rules
  | `(tactic| infer_instance) => `(tactic| with_reducible first
    | apply ws_seq
    | apply ws_ret
    | apply ws_if
    | apply ws_ex
    | apply ws_asg
    | apply ws_par
    | apply ws_dput
    | apply ws_lput
    | apply ws_nil
    | apply ws_retN
    | apply s0
    | apply s1
    | apply s2
    | apply s3
    | apply s4
    | apply s5
    | apply s6
    | apply s7
    | apply s8
    | apply s9
    | apply s10
    | apply s11
    | apply s12
    | apply s13
    | apply s14
    | apply s15
    | apply s16
    | apply s17
    | apply s18
    | apply s19
    | apply s20
    | apply s21
    | apply s22
    | apply s23
    | apply s24
    | apply s25
    | apply wv_op
    | apply wv_un
    | apply wv_bi
    | apply wv_call
    | apply wv_call0
    | apply wv_tup
    | apply wv_lst
    | apply wv_cons
    | apply wv_nil
    | apply wv_T
    | apply wv_tru
    | apply wv_not
    | apply wv_and
    | apply wv_or
    | apply wv_if
    | apply wv_andV
    | apply wv_orV
    | apply wv_yes
    | apply wv_ret
    | apply wv_app
    | apply wv_dget
    | apply wv_dget2
    | apply wv_din
    | apply wv_dct1
    | apply wv_dct0
    | apply wv_sx2
    | apply wv_sxH
    | apply wv_sxL
    | apply exI
    | apply v0
    | apply v1
    | apply v2
    | apply v3
    | apply v4
    | apply v5
    | apply v6
    | apply v7
    | apply v8
    | apply v9
    | apply v10
    | apply v11
    | apply v12
    | apply v13
    | apply v14
    | apply v15
    | apply v16
    | apply v17
    | apply v18
    | apply v19
    | apply v20
    | apply v21
    | apply v22
    | apply v23
    | apply v24
    | apply v25
    | apply g_add
    | apply g_sub
    | apply g_iadd
    | apply g_isub
    | apply g_lt
    | apply g_le
    | apply g_gt
    | apply g_ge
    | apply g_eq
    | apply g_ne
    | apply g_neg
    | apply g_not
    | apply g_gcd
    | apply g_abs
    | apply g_int
    | apply g_intb
    | apply g_nq0
    | apply g_nq1
    | apply g_ix0
    | apply g_ix1
    | apply g_ix2
    | apply g_lenT
    | apply exT
    | apply exTru
    | apply ifT
    | apply ifF
    | apply ifT'
    | apply ifF'
    | apply nf1
    | apply nf2
    | apply nf3
    | apply nf4
    | apply len0
    | apply len1
    | apply len2
    | apply len3
    | apply len4
    )
theorem tab_keys {gs : Tab Nat} : (tabD D.ref gs).map (fun kv => keyDd kv.1) = (keysA gs).map tupI := by
  unfold tabD keysA
  rw [List.map_map, List.map_map]
  refine List.map_congr_left fun t _ => ?_
  show keyDd (keyL t.1) = tupI t.1
  unfold keyDd keyL tupI
  rw [List.map_map]
  rfl
theorem w_along {p : Pol} {n k L M m : Nat} {x : Rat} (hk : k < n) (hn : n ≤ 4) (hp : WF n p) (pk : PK n 4 p) (pb : BT L M p) (L0 : 0 < L) (L40 : L < 2 ^ 40) (hm : M * L < 2 ^ m) (m300 : m ≤ 300) (hx : sz 4 x) {S : Sto} {Q : D → Sto → Prop}
    (q : ∀ r S', WF n r → PK n 4 r → BT (L * x.den ^ 3) (2 ^ (m + 73)) r → (∀ pt : List Rat, pt.length = n → vs n pt r = vs n (pt.set k (pt.getD k 0 + x)) p) → Keep S S' → Q (polD r) S') : WV (F__moved_along [polD p, .int (k : Int), nq x] S) Q := by
  have pl := len_256 hn hp pk
  have M300 : M * L < 2 ^ 300 := Nat.lt_of_lt_of_le hm (Nat.pow_le_pow_right (by decide) m300)
  unfold F__moved_along m__moved_along
  refine wfn [some (polD p), some (.int (k : Int)), some (nq x), none, none, none, none, none, none, none, none] rfl ?_
  repeat infer_instance
  refine ws_mid (fun ρ S1 => ∃ (gs : Tab Nat) (y4 y5 y6 : Option D), GI k S.length p gs S1 ∧ Keep S S1 ∧ S1[S.length]? = some (.dct (tabD D.ref gs)) ∧ ρ = [some (polD p), some (.int (k : Int)), some (nq x), some (.ref S.length), y4, y5, y6, none, none, none, none]) ?_ (fun ρ S1 hM => ?_)
  · exact w_rows (rest := sNil) hk hn pk (by omega) (Keep.app _ _) get_new fun gs S1 y4 y5 y6 g k1 hd => ⟨gs, y4, y5, y6, g, k1, hd, rfl⟩
  · obtain ⟨gs, y4, y5, y6, g, k1, hd, rfl⟩ := hM
    have hlen := lt_of_get hd
    have gl := g.len
    -- what is known of the groups
    have src : ∀ o ∈ keysA gs, oth k o = o ∧ EB n 4 o ∧ rowOf k o p = spL (topF (hO p k o) + 1) (hO p k o) ∧ hO p k o (topF (hO p k o)) ≠ 0 := fun o ho => by
      obtain ⟨t, ht, e⟩ := g.src o ho
      have te := pk t.1 (List.mem_map.mpr ⟨t, ht, rfl⟩)
      have h1 : oth k o = o := by
        rw [← e]
        unfold oth
        rw [List.set_set]
      have h2 : EB n 4 o := by
        rw [← e]
        refine ⟨by unfold oth; rw [List.length_set]; exact te.1, fun v hv => ?_⟩
        rcases List.mem_or_eq_of_mem_set hv with h | h
        · exact te.2 v h
        · omega
      rcases row_eq (o := o) hp pk hk with h3 | h3
      · have ne : spL 4 (hO p k o) ≠ [] := fun z => by
          have := rowOf_mem (k := k) ht
          rw [e, h3, z] at this
          cases this
        obtain ⟨a, b⟩ := topF_ok ne
        exact ⟨h1, h2, h3.trans b, a⟩
      · exact absurd e (h3 t ht)
    have rb : ∀ o ∈ keysA gs, RB L M 19 (topF (hO p k o) + 1) (hO p k o) := fun o ho => ⟨by have := topF_le (f := hO p k o); omega, .inr (by rw [Nat.add_sub_cancel]; exact (src o ho).2.2.2), fun i _ => pb.co _⟩
    have bdvd : ∀ o ∈ keysA gs, bF (hO p k o) ∣ L := fun o ho => by
      have qb := sp_qb (n := topF (hO p k o) + 1) (by have := topF_le (f := hO p k o); omega) (rb o ho).bd
      exact bel_dvd fun t ht => Int.ofNat_dvd.mp (qb.pb.bd t ht).dvd
    have bpos : ∀ o, 0 < bF (hO p k o) := fun o => bel_pos
    have dpos : 0 < x.den := x.den_pos
    repeat infer_instance
    have hd1 := Keep.app S1 [O.dct []] _ _ hd
    refine ws_mid (fun ρ S2 => Keep S S2 ∧ ST S2 S1.length (TT p k x (keysA gs)) ∧ ∃ x6 x8 x9 x10 : Option D, ρ = [some (polD p), some (.int (k : Int)), some (nq x), some (.ref S.length), y4, y5, x6, some (.ref S1.length), x8, x9, x10]) ?_ (fun ρ S2 hM => ?_)
    · refine ws_forD rfl hd1 ?_
      have hk2 : ((S1 ++ [O.dct []]).set S.length (.dcl (tabD D.ref gs)))[S.length]? = some (.dcl (tabD D.ref gs)) := List.getElem?_set_self (lt_of_get hd1)
      have hl2 : ∀ u ∈ gs, ((S1 ++ [O.dct []]).set S.length (.dcl (tabD D.ref gs)))[u.2]? = some (.lst ((rowOf k u.1 p).map rD)) := fun u hu => by
        have := g.ref u hu
        rw [List.getElem?_set_ne (by omega)]
        exact Keep.app _ _ _ _ this.2
      have ht2 : ((S1 ++ [O.dct []]).set S.length (.dcl (tabD D.ref gs)))[S1.length]? = some (.dct []) := by rw [List.getElem?_set_ne (by omega)]; exact get_new
      have k2 := (k1.trans (Keep.app S1 [O.dct []])).put (Nat.le_refl _) (.dcl (tabD D.ref gs))
      generalize (S1 ++ [O.dct []]).set S.length (.dcl (tabD D.ref gs)) = S2 at hk2 hl2 ht2 k2 ⊢
      have ult : ∀ u ∈ gs, u.2 < S1.length := fun u hu => lt_of_get (g.ref u hu).2
      have kl : (keysA gs).length = gs.length := by unfold keysA; rw [List.length_map]
      refine ws_for ((keysA gs).map tupI) (fun j ρ S3 => Keep S S3 ∧ S3[S.length]? = some (.dcl (tabD D.ref gs)) ∧ (∀ u ∈ gs, S3[u.2]? = some (.lst ((rowOf k u.1 p).map rD))) ∧ S3[S1.length]? = some (.dct (tabD ndD (TT p k x ((keysA gs).take j)))) ∧ ∃ x6 x8 x9 x10 : Option D, ρ = [some (polD p), some (.int (k : Int)), some (nq x), some (.ref S.length), y4, y5, x6, some (.ref S1.length), x8, x9, x10]) (by rw [List.length_map]; omega) ?_ (fun j y ρ S3 hy hI => ?_) (fun ρ S3 hI => ?_)
      · refine wv_keysL ?_
        repeat infer_instance
        refine ⟨_, _, rfl, hk2, ⟨k2, hk2, hl2, ht2, _, _, _, _, rfl⟩, fun _ _ _ _ => ?_⟩
        rw [tab_keys]
        exact sqIs_it
      · obtain ⟨k3, hk3, hl3, ht3, x6, x8, x9, x10, rfl⟩ := hI
        rw [List.getElem?_map] at hy
        obtain ⟨o, ho', rfl⟩ := Option.map_eq_some_iff.mp hy
        have ho := List.mem_of_getElem? ho'
        obtain ⟨u, hu, eu⟩ := List.mem_map.mp ho
        have eu : u.1 = o := eu
        obtain ⟨s1, s2, s3, s4⟩ := src o ho
        have lo : lookA gs o = some u.2 := lookA_of g.nd (by rw [← eu]; exact hu)
        have hg : dctGet S3 (.ref S.length) (tupI o) = some (some (.ref u.2)) := by
          unfold dctGet
          rw [show dctOfR S3 (.ref S.length) = some (tabD D.ref gs) by unfold dctOfR; dsimp only; rw [hk3]]
          rw [Option.bind_some, keyD_tupI, Option.map_some, valD_tab, lo]
          rfl
        have hrow : S3[u.2]? = some (.lst ((spP (topF (hO p k o) + 1) (hO p k o)).map rowT)) := by
          rw [hl3 u hu, eu, s3, sp_map]
        refine ⟨_, rfl, ?_⟩
        unfold L2__moved_along
        simp only [tN, set0, setS]
        refine ws_forE (wv_seq ?_)
        repeat infer_instance
        refine ⟨.ref u.2, hg, ?_⟩
        repeat infer_instance
        have tle := topF_le (f := hO p k o)
        refine w_moved_row (rb o ho) (by omega) L0 L40 M300 hx hrow fun S4 ri k4 hri hs4 => ?_
        have onot : o ∉ (keysA gs).take j := fun z => by
          have nd1 : ((keysA gs).take (j + 1)).Nodup := g.nd.sublist (List.take_sublist _ _)
          rw [take_next ho'] at nd1
          exact (List.nodup_append.mp nd1).2.2 o z o (List.mem_singleton.mpr rfl) rfl
        have tl := TT_len (p := p) (k := k) (x := x) (G := (keysA gs).take j)
        rw [List.length_take] at tl
        refine ⟨_, sq_ref' hs4, rowG (topF (hO p k o) + 1) fun e => .tup [.int (e : Nat), .int (mvI (hO p k o) x (bF (hO p k o)) (topF (hO p k o)) e), .int (((bF (hO p k o) : Nat) : Int) * (x.den : Int) ^ (topF (hO p k o) - e))], fun l ρ S5 => l ≤ topF (hO p k o) + 1 ∧ Keep S S5 ∧ S5[S.length]? = some (.dcl (tabD D.ref gs)) ∧ (∀ u ∈ gs, S5[u.2]? = some (.lst ((rowOf k u.1 p).map rD))) ∧ S5[ri]? = some (.lst (rowG (topF (hO p k o) + 1) fun e => .tup [.int (e : Nat), .int (mvI (hO p k o) x (bF (hO p k o)) (topF (hO p k o)) e), .int (((bF (hO p k o) : Nat) : Int) * (x.den : Int) ^ (topF (hO p k o) - e))])) ∧ S5[S1.length]? = some (.dct (tabD ndD (TT p k x ((keysA gs).take j) ++ rowM p k x o l))) ∧ ∃ x8 x9 x10 : Option D, ρ = [some (polD p), some (.int (k : Int)), some (nq x), some (.ref S.length), y4, y5, some (tupI o), some (.ref S1.length), x8, x9, x10], by rw [rowG_len]; omega, ⟨Nat.zero_le _, k3.trans k4, k4 _ _ hk3, fun v hv => k4 _ _ (hl3 v hv), hs4, by
          rw [k4 _ _ ht3]
          congr 2
          show _ = tabD ndD (_ ++ [])
          rw [List.append_nil], _, _, _, rfl⟩, fun _ _ _ hI => sqIs_ref hI.2.2.2.2.1, fun l y ρ S5 hy hI => ?_, fun ρ S5 hI => ?_⟩
        · obtain ⟨hl, k5, hk5, hl5, hr5, ht5, x8, x9, x10, rfl⟩ := hI
          rw [rowG_at] at hy
          by_cases c : l < topF (hO p k o) + 1
          · rw [if_pos c] at hy
            cases hy
            refine ⟨_, rfl, ?_⟩
            unfold L1__moved_along
            simp only [set0, setS]
            refine ws_dput ?_
            repeat infer_instance
            have kol : k < o.length := by rw [s2.1]; exact hk
            refine w_with kol (by rw [s2.1]; omega) ?_
            have e5 := lt_of_get ht5
            refine ⟨S1.length, _, keyL (o.set k (l : Int)), rfl, ht5, keyD_tupI _, by rw [dct_len, List.length_append]; unfold rowM; rw [List.length_map, List.length_range]; omega, ?_⟩
            have pt := putD_tab (f := ndD) (T := TT p k x ((keysA gs).take j) ++ rowM p k x o l) (e := o.set k (l : Int)) (x := (wF (hO p k o) x l, false))
            have kn := key_new (p := p) (k := k) (x := x) (G := (keysA gs).take j) (o := o) (l := l) kol (fun o' ho2 => (src o' (List.mem_of_mem_take ho2)).1) s1 onot
            have hri2 : ri ≠ S1.length := by have := lt_of_get ht3; have := k4.len; omega
            refine ⟨by omega, k5.put (by omega) _, ?_, fun v hv => ?_, ?_, ?_, _, _, _, rfl⟩
            · rw [List.getElem?_set_ne (by omega)]; exact hk5
            · rw [List.getElem?_set_ne (by have := ult v hv; omega)]; exact hl5 v hv
            · rw [List.getElem?_set_ne (fun e => hri2 e.symm)]; exact hr5
            · rw [List.getElem?_set_self e5, rowM_succ, ← List.append_assoc, ← put_new kn, ← pt]
              rfl
          · rw [if_neg c] at hy; cases hy
        · obtain ⟨hl, k5, hk5, hl5, hr5, ht5, x8, x9, x10, rfl⟩ := hI
          rw [rowG_len] at ht5
          refine ⟨k5, hk5, hl5, ?_, _, _, _, _, rfl⟩
          rw [ht5, take_next ho', TT_snoc]
      · obtain ⟨k3, hk3, hl3, ht3, x6, x8, x9, x10, rfl⟩ := hI
        rw [List.length_map, List.take_length] at ht3
        refine ⟨k3.put (Nat.le_refl _) _, ?_, _, _, _, _, rfl⟩
        show (S3.set S.length _)[S1.length]? = _
        rw [List.getElem?_set_ne (by omega)]
        exact ht3
    · obtain ⟨k2, hst, x6, x8, x9, x10, rfl⟩ := hM
      repeat infer_instance
      have G1 : ∀ o ∈ keysA gs, oth k o = o ∧ EB n 4 o := fun o ho => ⟨(src o ho).1, (src o ho).2.1⟩
      have G2 : ∀ o ∈ keysA gs, oth k o = o ∧ k < o.length := fun o ho => ⟨(src o ho).1, by rw [(src o ho).2.1.1]; exact hk⟩
      have kq : PK n 4 (ratT (TT p k x (keysA gs))) := fun e he => by
        rw [keys_rat] at he
        obtain ⟨o, ho, i, hi, rfl⟩ := TT_key he
        have tle := topF_le (f := hO p k o)
        have s2 := (G1 o ho).2
        refine ⟨by rw [List.length_set]; exact s2.1, fun v hv => ?_⟩
        rcases List.mem_or_eq_of_mem_set hv with h | h
        · exact s2.2 v h
        · omega
      have hk' : KOk n (keysA (TT p k x (keysA gs))) := by
        rw [← keys_rat]
        exact PK.kok kq (by decide)
      have hn' := TT_nodup (p := p) (k := k) (x := x) g.nd G2
      have hBN : BN (L * x.den ^ 3) (2 ^ (m + 73)) (TT p k x (keysA gs)) := fun t ht => by
        obtain ⟨o, ho, ht⟩ := List.mem_flatMap.mp ht
        obtain ⟨e, he, rfl⟩ := List.mem_map.mp ht
        have he := List.mem_range.mp he
        have tle := topF_le (f := hO p k o)
        have b0 := bpos o
        have bd := bdvd o ho
        have bl : bF (hO p k o) ≤ L := Nat.le_of_dvd L0 bd
        have pz : (0 : Int) < ((bF (hO p k o) : Nat) : Int) * (x.den : Int) ^ (topF (hO p k o) - e) := Int.mul_pos (by omega) (Int.pow_pos (by omega))
        have dd : ∀ i, i < topF (hO p k o) + 1 → (hO p k o i).den ∣ bF (hO p k o) := fun i hi => by
          by_cases z : hO p k o i = 0
          · rw [z]; exact Nat.one_dvd _
          · exact den_bel (t := ([(i : Int)], hO p k o i)) (mem_spP.mpr ⟨i, hi, z, rfl⟩)
        have pw : ∀ i, szI 13 ((x.den : Int) ^ (topF (hO p k o) - i)) := fun i => by
          have := Rf.szI.pow hx.2 (topF (hO p k o) - i)
          exact this.mono (by omega)
        have wz : ∀ i, i < topF (hO p k o) + 1 → szI (m + 13) (wRow (hO p k o) x (bF (hO p k o)) (topF (hO p k o)) i) := fun i hi => by
          have a1 : szI m (wq ((bF (hO p k o) : Nat) : Int) (hO p k o i)) := Nat.lt_of_le_of_lt (wq_sz' bl ((rb o ho).bd i hi) (dd i hi) b0) hm
          exact a1.mul (pw i)
        have sz := st_sz (top := topF (hO p k o)) wz hx.1 (topF (hO p k o)) e he
        have s60 : 5 * (topF (hO p k o) + 1) * topF (hO p k o) ≤ 5 * 4 * 3 := Nat.mul_le_mul (by omega) tle
        have sz : szI (m + 73) (mvI (hO p k o) x (bF (hO p k o)) (topF (hO p k o)) e) := sz.mono (by omega)
        refine ⟨pz, ?_, ?_⟩
        · show ((bF (hO p k o) : Nat) : Int) * (x.den : Int) ^ (topF (hO p k o) - e) ∣ ((L * x.den ^ 3 : Nat) : Int)
          rw [Int.natCast_mul, Int.natCast_pow]
          exact Int.mul_dvd_mul (Int.ofNat_dvd.mpr bd) (pow_dvdI (by omega))
        · show (mvI (hO p k o) x (bF (hO p k o)) (topF (hO p k o)) e).natAbs ≤ 2 ^ (m + 73) * (((bF (hO p k o) : Nat) : Int) * (x.den : Int) ^ (topF (hO p k o) - e)).natAbs
          exact Nat.le_trans (Nat.le_of_lt sz) (Nat.le_mul_of_pos_right _ (by omega))
      have tl := TT_len (p := p) (k := k) (x := x) (G := keysA gs)
      have kl : (keysA gs).length = gs.length := by unfold keysA; rw [List.length_map]
      have hLB : L * x.den ^ 3 < BIG := by
        have a : x.den ^ 3 ≤ (2 ^ 4) ^ 3 := Nat.pow_le_pow_left (Nat.le_of_lt hx.2) _
        have b : L * x.den ^ 3 ≤ 2 ^ 40 * (2 ^ 4) ^ 3 := Nat.mul_le_mul (Nat.le_of_lt L40) a
        have big : 2 ^ 60 ≤ BIG := by
          unfold BIG
          exact Nat.pow_le_pow_right (by decide) (by decide)
        exact Nat.lt_of_le_of_lt b (Nat.lt_of_lt_of_le (by decide) big)
      refine w_from_tableB hn' hk' hBN hst (by omega) (Nat.mul_pos L0 (Nat.pow_pos dpos)) hLB (by omega) fun S3 k3 => ?_
      have hkr := hk'
      have hnr := hn'
      rw [← keys_rat] at hkr hnr
      refine q _ S3 (tidy_wf hkr hnr) (fun e he => kq e (tidy_keys e he)) (tidy_bt hBN.rat) (fun pt hl => ?_) (k2.trans k3)
      have e1 : vs n pt (tidy (ratT (TT p k x (keysA gs)))) = vs n pt (ratT (TT p k x (keysA gs))) := vs_same (B := 4) hl (fun e he => kq e (tidy_keys e he)) kq fun e => by
        rw [sumAt_co (tidy_wf hkr hnr).nodup, tidy_co hkr hnr, sumAt_co hnr]
      have kpt : k < pt.length := by omega
      rw [e1, vs_TT hk G1, vs_rows (G := keysA gs) g.nd hk pk g.cov]
      refine sumO_congr fun o ho => ?_
      obtain ⟨s1, s2, s3, s4⟩ := src o ho
      have kol : k < o.length := by rw [s2.1]; exact hk
      have gk : (pt.set k (pt.getD k 0 + x)).getD k 0 = pt.getD k 0 + x := by
        rw [List.getD_eq_getElem?_getD, List.getElem?_set_self kpt]
        rfl
      have tle := topF_le (f := hO p k o)
      have dd : ∀ i, i ≤ topF (hO p k o) → (hO p k o i).den ∣ bF (hO p k o) := fun i hi => by
        by_cases z : hO p k o i = 0
        · rw [z]; exact Nat.one_dvd _
        · exact den_bel (t := ([(i : Int)], hO p k o i)) (mem_spP.mpr ⟨i, by omega, z, rfl⟩)
      rw [gk, s3, rsV_sp, tv_indep s1 kol, mv_ev (bpos o) dd]
end Gn

set_option maxHeartbeats 2000000
namespace Gn
open PySem PySem.Spec PyProof.Rows L2 Rf
local macro_rules
  | `(tactic| infer_instance) => `(tactic| with_reducible first
    | apply ws_seq
    | apply ws_ret
    | apply ws_if
    | apply ws_ex
    | apply ws_asg
    | apply ws_par
    | apply ws_dput
    | apply ws_lput
    | apply ws_nil
    | apply ws_retN
    | apply s0
    | apply s1
    | apply s2
    | apply s3
    | apply s4
    | apply s5
    | apply s6
    | apply s7
    | apply s8
    | apply s9
    | apply s10
    | apply s11
    | apply s12
    | apply s13
    | apply s14
    | apply s15
    | apply s16
    | apply s17
    | apply s18
    | apply s19
    | apply s20
    | apply s21
    | apply s22
    | apply s23
    | apply s24
    | apply s25
    | apply wv_op
    | apply wv_un
    | apply wv_bi
    | apply wv_call
    | apply wv_call0
    | apply wv_tup
    | apply wv_lst
    | apply wv_cons
    | apply wv_nil
    | apply wv_T
    | apply wv_tru
    | apply wv_not
    | apply wv_and
    | apply wv_or
    | apply wv_if
    | apply wv_andV
    | apply wv_orV
    | apply wv_yes
    | apply wv_ret
    | apply wv_app
    | apply wv_dget
    | apply wv_dget2
    | apply wv_din
    | apply wv_dct1
    | apply wv_dct0
    | apply wv_sx2
    | apply wv_sxH
    | apply wv_sxL
    | apply exI
    | apply v0
    | apply v1
    | apply v2
    | apply v3
    | apply v4
    | apply v5
    | apply v6
    | apply v7
    | apply v8
    | apply v9
    | apply v10
    | apply v11
    | apply v12
    | apply v13
    | apply v14
    | apply v15
    | apply v16
    | apply v17
    | apply v18
    | apply v19
    | apply v20
    | apply v21
    | apply v22
    | apply v23
    | apply v24
    | apply v25
    | apply g_add
    | apply g_sub
    | apply g_iadd
    | apply g_isub
    | apply g_lt
    | apply g_le
    | apply g_gt
    | apply g_ge
    | apply g_eq
    | apply g_ne
    | apply g_neg
    | apply g_not
    | apply g_gcd
    | apply g_abs
    | apply g_int
    | apply g_intb
    | apply g_nq0
    | apply g_nq1
    | apply g_ix0
    | apply g_ix1
    | apply g_ix2
    | apply g_lenT
    | apply exT
    | apply exTru
    | apply ifT
    | apply ifF
    | apply ifT'
    | apply ifF'
    | apply nf1
    | apply nf2
    | apply nf3
    | apply nf4
    | apply len0
    | apply len1
    | apply len2
    | apply len3
    | apply len4
    )
/-! ### drawn points, and a polynomial moved by one -/
structure Sml (q : Rat) : Prop where
  bq : BQ 12 9 q
  sz : sz 4 q
  den : q.den ≤ 4
theorem w_smallS {r : Int} {S : Sto} {Q : D → Sto → Prop} (k : ∀ q, Sml q → Q (nq q) S) : WV (F__law_small [.int r] S) Q := by
  have b1 := fm (x := r) (m := 19) (by decide)
  have b2 := fm (x := r.fdiv 19) (m := 4) (by decide)
  have hb : 0 < 1 + (r.fdiv 19).fmod 4 := by omega
  have bp : BP 12 9 (r.fmod 19 - 9, 1 + (r.fdiv 19).fmod 4) := by
    refine ⟨hb, ?_, ?_⟩
    · show (1 + (r.fdiv 19).fmod 4) ∣ ((12 : Nat) : Int)
      have h4 : (r.fdiv 19).fmod 4 = 0 ∨ (r.fdiv 19).fmod 4 = 1 ∨ (r.fdiv 19).fmod 4 = 2 ∨ (r.fdiv 19).fmod 4 = 3 := by omega
      rcases h4 with h | h | h | h <;> rw [h] <;> decide
    · show (r.fmod 19 - 9).natAbs ≤ 9 * (1 + (r.fdiv 19).fmod 4).natAbs
      omega
  unfold F__law_small m__law_small
  refine wfn [some (.int r)] rfl ?_
  repeat infer_instance
  refine g_mod (by decide) ?_
  repeat infer_instance
  refine g_div (divOk_s (by decide) (by decide)) ?_
  repeat infer_instance
  refine g_mod (by decide) ?_
  repeat infer_instance
  have d := Int.le_of_dvd hb (den_dvd (a := r.fmod 19 - 9) hb)
  exact wv_of (e_frac (n := 6) (by omega) (by unfold szI; omega) S) (k _ ⟨bp.norm, sz_frac (by omega) (by show (r.fmod 19 - 9).natAbs < 2 ^ 4; omega) (by show (1 + (r.fdiv 19).fmod 4).natAbs < 2 ^ 4; omega), by omega⟩)
theorem list_of {P : Rat → Prop} : ∀ {ys : List D}, (∀ y ∈ ys, ∃ q, y = nq q ∧ P q) → ∃ pt : List Rat, ys = pt.map nq ∧ ∀ q ∈ pt, P q
  | [], _ => ⟨[], rfl, fun q hq => nomatch hq⟩
  | y :: ys, h => by
    obtain ⟨pt, e, h2⟩ := list_of fun z hz => h z (List.mem_cons_of_mem _ hz)
    obtain ⟨q, e1, hq⟩ := h y List.mem_cons_self
    refine ⟨q :: pt, by rw [List.map_cons, e, e1], fun z hz => ?_⟩
    rcases List.mem_cons.mp hz with rfl | hz
    · exact hq
    · exact h2 z hz
structure PtS (n : Nat) (pt : List Rat) : Prop where
  len : pt.length = n
  sm : ∀ q ∈ pt, Sml q
theorem PtS.ok {n : Nat} {pt : List Rat} (h : PtS n pt) : PtOk n pt := ⟨h.len, fun q hq => (h.sm q hq).bq⟩
theorem PtS.at_ {n j : Nat} {pt : List Rat} (h : PtS n pt) (hj : j < n) : Sml (pt.getD j 0) := h.sm _ (getD_mem (by rw [h.len]; exact hj))
theorem g_drawM {new : List Int} {di : Nat} {S : Sto} (hs : S[di]? = some (.lst (new.map D.int))) (hl0 : 0 < new.length) (hl : new.length < 1000) {i : Int} {Q : D → Sto → Prop} (q : ∀ r, Q (.int r) S) : WG (gIx (.ref di) (.int (i.fmod (new.length : Int))) S) Q := by
  have b := fm (x := i) (m := (new.length : Int)) (by omega)
  obtain ⟨j, hj⟩ : ∃ j : Nat, i.fmod (new.length : Int) = (j : Int) := ⟨(i.fmod (new.length : Int)).toNat, by omega⟩
  rw [hj]
  have hlt : j < new.length := by omega
  exact g_ixR hs (by rw [List.getElem?_map, List.getElem?_eq_getElem hlt]; rfl) (q _)
theorem w_pointS {n : Nat} {new : List Int} {di : Nat} {at_ : Int} {S : Sto} (hd : S[di]? = some (.lst (new.map D.int))) {Q : D → Sto → Prop} (hn : n ≤ 4) (hl0 : 0 < new.length) (hl : new.length < 1000)
    (k : ∀ pt S', PtS n pt → Keep S S' → Q (ptD pt) S') : WV (F__law_point [.int (n : Int), .ref di, .int at_] S) Q := by
  unfold F__law_point m__law_point
  refine wfn [some (.int (n : Int)), some (.ref di), some (.int at_), none] rfl ?_
  repeat infer_instance
  refine wv_lcR (rngD 0 n) (fun _ y => ∃ q, y = nq q ∧ Sml q) (by rw [rngD_len]; omega) ?_
  refine wv_rng1 ?_
  repeat infer_instance
  refine ⟨_, rfl, rngOk_nat (by omega), fun _ _ => by rw [Int.toNat_natCast]; exact sqIs_it, fun x hxm S2 k2 => ?_, fun i S2 ys k2 hi hr hlen hall => ?_⟩
  · obtain ⟨i, hi, rfl⟩ := rngD_mem hxm
    refine ⟨_, rfl, ?_⟩
    unfold L0__law_point
    simp only [tN, wipeE, set0, setS]
    repeat infer_instance
    have hd2 := k2 _ _ hd
    refine ⟨_, _, len_ref hd2, ?_⟩
    repeat infer_instance
    rw [List.length_map]
    refine g_mod (by omega) ?_
    refine g_drawM hd2 hl0 hl fun r => ?_
    repeat infer_instance
    refine w_smallS fun q sq => ?_
    exact ⟨Keep.refl _, q, rfl, sq⟩
  · repeat infer_instance
    refine g_tupR hr ?_
    repeat infer_instance
    rw [rngD_len] at hlen
    obtain ⟨pt, e, hp⟩ := list_of (P := Sml) (ys := ys) fun y hy => by
      obtain ⟨i, hi⟩ := List.getElem?_of_mem hy
      have hl := lt_len hi
      have : (rngD 0 n)[i]? = some (.int ((0 : Int) + (i : Nat))) := by
        unfold rngD
        rw [List.getElem?_map, List.getElem?_range (by omega)]
        rfl
      exact hall i _ y this hi
    rw [e]
    rw [e, List.length_map] at hlen
    exact k pt S2 ⟨hlen, hp⟩ k2
def shK (n i : Nat) (pt a : List Rat) : List Rat := (List.range n).map fun j => pt.getD j 0 + (if j < i then a.getD j 0 else 0)
theorem shK_len {n i : Nat} {pt a : List Rat} : (shK n i pt a).length = n := by unfold shK; rw [List.length_map, List.length_range]
theorem shK_zero {n : Nat} {pt a : List Rat} (hl : pt.length = n) : shK n 0 pt a = pt := by
  apply List.ext_getElem?
  intro j
  unfold shK
  rw [List.getElem?_map]
  by_cases c : j < n
  · rw [List.getElem?_range c, List.getElem?_eq_getElem (by omega)]
    show some (pt.getD j 0 + 0) = _
    rw [Rat.add_zero, List.getD_eq_getElem?_getD, List.getElem?_eq_getElem (by omega)]
    rfl
  · rw [List.getElem?_eq_none (by rw [List.length_range]; omega), List.getElem?_eq_none (by omega)]; rfl
theorem shK_step {n i : Nat} {pt a : List Rat} (hl : pt.length = n) (hi : i < n) : shK n i (pt.set i (pt.getD i 0 + a.getD i 0)) a = shK n (i + 1) pt a := by
  unfold shK
  refine List.map_congr_left fun j hj => ?_
  have hj := List.mem_range.mp hj
  by_cases c : j = i
  · subst c
    rw [if_neg (by omega), if_pos (by omega), List.getD_eq_getElem?_getD, List.getElem?_set_self (by omega)]
    show _ + _ + 0 = _
    rw [Rat.add_zero]
  · have e : (pt.set i (pt.getD i 0 + a.getD i 0)).getD j 0 = pt.getD j 0 := by
      rw [List.getD_eq_getElem?_getD, List.getElem?_set_ne (fun z => c z.symm), List.getD_eq_getElem?_getD]
    rw [e]
    by_cases c2 : j < i
    · rw [if_pos c2, if_pos (by omega)]
    · rw [if_neg c2, if_neg (by omega)]
theorem shK_skip {n i : Nat} {pt a : List Rat} (h : a.getD i 0 = 0) : shK n i pt a = shK n (i + 1) pt a := by
  unfold shK
  refine List.map_congr_left fun j _ => ?_
  by_cases c : j = i
  · subst c
    rw [if_neg (by omega), if_pos (by omega), h]
  · by_cases c2 : j < i
    · rw [if_pos c2, if_pos (by omega)]
    · rw [if_neg c2, if_neg (by omega)]
theorem shK_all {n : Nat} {pt a : List Rat} : shK n n pt a = shP n pt a := by
  unfold shK shP
  exact List.map_congr_left fun j hj => by rw [if_pos (List.mem_range.mp hj)]
theorem w_movedG {p : Pol} {n : Nat} {a : List Rat} (hn : n ≤ 4) (hp : QB n 4 12 45 5 p) (ha : PtS n a) {S : Sto} {Q : D → Sto → Prop}
    (q : ∀ r S', WF n r → PK n 4 r → (∀ pt : List Rat, pt.length = n → vs n pt r = vs n (shP n pt a) p) → Keep S S' → Q (polD r) S') : WV (F_moved [.int (n : Int), polD p, ptD a] S) Q := by
  unfold F_moved m_moved
  refine wfn [some (.int (n : Int)), some (polD p), some (ptD a), none] rfl ?_
  repeat infer_instance
  refine ws_mid (fun ρ S1 => ∃ r x3, Keep S S1 ∧ WF n r ∧ PK n 4 r ∧ (∀ pt : List Rat, pt.length = n → vs n pt r = vs n (shP n pt a) p) ∧ ρ = [some (.int (n : Int)), some (polD r), some (ptD a), x3]) ?_ (fun ρ S1 hM => ?_)
  · refine ws_for (rngD 0 n) (fun i ρ S1 => i ≤ n ∧ ∃ r x3 L M, Keep S S1 ∧ WF n r ∧ PK n 4 r ∧ BT L M r ∧ 0 < L ∧ L ≤ 12 * 64 ^ i ∧ (i ≤ 3 → M * L < 2 ^ (10 + 95 * i)) ∧ (∀ pt : List Rat, pt.length = n → vs n pt r = vs n (shK n i pt a) p) ∧ ρ = [some (.int (n : Int)), some (polD r), some (ptD a), x3]) (by rw [rngD_len]; omega) ?_ (fun i y ρ S1 hy hI => ?_) (fun ρ S1 hI => ?_)
    · refine wv_rng1 ?_
      repeat infer_instance
      exact ⟨_, rfl, rngOk_nat (by omega), ⟨Nat.zero_le _, p, _, 12, 45, Keep.refl _, hp.pb.wf, hp.pk, hp.pb.bd, by decide, by decide, fun _ => by decide, fun pt hl => by rw [shK_zero hl], rfl⟩, fun _ _ _ _ => by rw [Int.toNat_natCast]; exact sqIs_it⟩
    · obtain ⟨_, r, x3, L, M, k1, rw', rk, rb, L0, Ll, ML, rv, rfl⟩ := hI
      obtain ⟨hi, hye⟩ := rngD_get hy
      rw [Int.zero_add] at hye
      subst hye
      refine ⟨_, rfl, ?_⟩
      unfold L0_moved
      simp only [tN, set0, setS]
      repeat infer_instance
      obtain ⟨ga, _⟩ := getP ha.ok hi
      have sm := ha.at_ hi
      refine g_ixT (k := i) (by rw [List.getElem?_map, ga]; rfl) ?_
      repeat infer_instance
      have up : 12 * 64 ^ i ≤ 12 * 64 ^ (i + 1) := Nat.mul_le_mul_left _ (Nat.pow_le_pow_right (by decide) (by omega))
      by_cases c : (a.getD i 0).num = 0
      · rw [decide_eq_true c]
        refine ⟨fun z => (nomatch z), fun _ => ws_nil ⟨hi, r, _, L, M, k1, rw', rk, rb, L0, Nat.le_trans Ll up, fun h3 => Nat.lt_of_lt_of_le (ML (by omega)) (Nat.pow_le_pow_right (by decide) (by omega)), fun pt hl => ?_, rfl⟩⟩
        rw [rv pt hl, shK_skip (Rat.num_eq_zero.mp c)]
      · rw [decide_eq_false c]
        refine ⟨fun _ => ?_, fun z => nomatch z⟩
        repeat infer_instance
        refine g_ixT (k := i) (by rw [List.getElem?_map, ga]; rfl) ?_
        repeat infer_instance
        have i3 : i ≤ 3 := by omega
        have L28 : L ≤ 12 * 64 ^ 3 := Nat.le_trans Ll (Nat.mul_le_mul_left _ (Nat.pow_le_pow_right (by decide) i3))
        have d64 : (a.getD i 0).den ^ 3 ≤ 4 ^ 3 := Nat.pow_le_pow_left sm.den _
        refine w_along (m := 10 + 95 * i) hi hn rw' rk rb L0 (by omega) (ML i3) (by omega) sm.sz fun r2 S2 w2 k2 b2 v2 kk => ?_
        refine ⟨hi, r2, _, L * (a.getD i 0).den ^ 3, _, k1.trans kk, w2, k2, b2, Nat.mul_pos L0 (Nat.pow_pos (a.getD i 0).den_pos), ?_, fun h3 => ?_, fun pt hl => ?_, rfl⟩
        · have e : 64 ^ (i + 1) = 64 ^ i * 64 := _root_.Nat.pow_succ ..
          rw [e, ← Nat.mul_assoc]
          exact Nat.mul_le_mul Ll d64
        · have h2 : i ≤ 2 := by omega
          have L22 : L * (a.getD i 0).den ^ 3 < 2 ^ 22 := by
            have e1 : L ≤ 12 * 64 ^ 2 := Nat.le_trans Ll (Nat.mul_le_mul_left _ (Nat.pow_le_pow_right (by decide) h2))
            exact Nat.lt_of_le_of_lt (Nat.mul_le_mul e1 d64) (by decide)
          have := Nat.mul_lt_mul_of_pos_left L22 (show 0 < 2 ^ (10 + 95 * i + 73) from Nat.pow_pos (by decide))
          rw [← Nat.pow_add] at this
          exact Nat.lt_of_lt_of_le this (Nat.pow_le_pow_right (by decide) (by omega))
        · rw [v2 pt hl, rv _ (by rw [List.length_set]; exact hl), shK_step hl hi]
    · rw [rngD_len] at hI
      obtain ⟨_, r, x3, L, M, k1, rw', rk, rb, L0, Ll, ML, rv, rfl⟩ := hI
      exact ⟨r, _, k1, rw', rk, fun pt hl => by rw [rv pt hl, shK_all], rfl⟩
  · obtain ⟨r, x3, k1, rw', rk, rv, rfl⟩ := hM
    repeat infer_instance
    exact q r S1 rw' rk rv k1
end Gn

set_option maxHeartbeats 2000000
namespace Gn
open PySem PySem.Spec PyProof.Rows L2 Rf
local macro_rules
  | `(tactic| infer_instance) => `(tactic| with_reducible first
    | apply ws_seq
    | apply ws_ret
    | apply ws_if
    | apply ws_ex
    | apply ws_asg
    | apply ws_par
    | apply ws_dput
    | apply ws_lput
    | apply ws_nil
    | apply ws_retN
    | apply s0
    | apply s1
    | apply s2
    | apply s3
    | apply s4
    | apply s5
    | apply s6
    | apply s7
    | apply s8
    | apply s9
    | apply s10
    | apply s11
    | apply s12
    | apply s13
    | apply s14
    | apply s15
    | apply s16
    | apply s17
    | apply s18
    | apply s19
    | apply s20
    | apply s21
    | apply s22
    | apply s23
    | apply s24
    | apply s25
    | apply wv_op
    | apply wv_un
    | apply wv_bi
    | apply wv_call
    | apply wv_call0
    | apply wv_tup
    | apply wv_lst
    | apply wv_cons
    | apply wv_nil
    | apply wv_T
    | apply wv_tru
    | apply wv_not
    | apply wv_and
    | apply wv_or
    | apply wv_if
    | apply wv_andV
    | apply wv_orV
    | apply wv_yes
    | apply wv_ret
    | apply wv_app
    | apply wv_dget
    | apply wv_dget2
    | apply wv_din
    | apply wv_dct1
    | apply wv_dct0
    | apply wv_sx2
    | apply wv_sxH
    | apply wv_sxL
    | apply exI
    | apply v0
    | apply v1
    | apply v2
    | apply v3
    | apply v4
    | apply v5
    | apply v6
    | apply v7
    | apply v8
    | apply v9
    | apply v10
    | apply v11
    | apply v12
    | apply v13
    | apply v14
    | apply v15
    | apply v16
    | apply v17
    | apply v18
    | apply v19
    | apply v20
    | apply v21
    | apply v22
    | apply v23
    | apply v24
    | apply v25
    | apply g_add
    | apply g_sub
    | apply g_iadd
    | apply g_isub
    | apply g_lt
    | apply g_le
    | apply g_gt
    | apply g_ge
    | apply g_eq
    | apply g_ne
    | apply g_neg
    | apply g_not
    | apply g_gcd
    | apply g_abs
    | apply g_int
    | apply g_intb
    | apply g_nq0
    | apply g_nq1
    | apply g_ix0
    | apply g_ix1
    | apply g_ix2
    | apply g_lenT
    | apply exT
    | apply exTru
    | apply ifT
    | apply ifF
    | apply ifT'
    | apply ifF'
    | apply nf1
    | apply nf2
    | apply nf3
    | apply nf4
    | apply len0
    | apply len1
    | apply len2
    | apply len3
    | apply len4
    )
/-! ### a variable fixed -/
def delE (k : Nat) (e : List Int) : List Int := e.take k ++ e.drop (k + 1)
theorem delE_eb {n k : Nat} {B : Int} {e : List Int} (h : EB (n + 1) B e) (hk : k < n + 1) : EB n B (delE k e) := ⟨by
  unfold delE
  rw [List.length_append, List.length_take, List.length_drop, h.1]
  omega, fun m hm => by
  rcases List.mem_append.mp hm with h1 | h1
  · exact h.2 m (List.mem_of_mem_take h1)
  · exact h.2 m (List.mem_of_mem_drop h1)⟩
theorem delE_D {k : Nat} {e : List Int} : List.take k (e.map D.int) ++ List.drop (k + 1) (e.map D.int) = (delE k e).map D.int := by
  unfold delE
  rw [List.map_append, List.map_take, List.map_drop]
def fxP (k : Nat) (x : Rat) (p : Pol) : Pol := p.map fun t => (delE k t.1, t.2 * x ^ (t.1.getD k 0).toNat)
theorem fx_pk {n k : Nat} {x : Rat} {p : Pol} (pk : PK (n + 1) 4 p) (hk : k < n + 1) : PK n 4 (fxP k x p) := fun e he => by
  obtain ⟨t, ht, rfl⟩ := List.mem_map.mp he
  obtain ⟨u, hu, rfl⟩ := List.mem_map.mp ht
  exact delE_eb (pk u.1 (List.mem_map.mpr ⟨u, hu, rfl⟩)) hk
theorem bq_p3 {x : Rat} (h : BQ 12 9 x) {e : Nat} (he : e ≤ 3) : BQ 1728 729 (x ^ e) :=
  ((bq_pow h e).monoL (Nat.pow_dvd_pow 12 he)).mono (Nat.pow_le_pow_right (by decide) he)
theorem fx_bt {n k : Nat} {x : Rat} {p : Pol} (pk : PK (n + 1) 4 p) (hk : k < n + 1) (pb : BT 12 45 p) (hx : BQ 12 9 x) : BT 20736 32805 (fxP k x p) := fun t ht => by
  obtain ⟨u, hu, rfl⟩ := List.mem_map.mp ht
  have b := getE (pk u.1 (List.mem_map.mpr ⟨u, hu, rfl⟩)) hk
  exact bq_mul (pb u hu) (bq_p3 hx (by omega))
theorem w_law_fixed {p : Pol} {n k : Nat} {x : Rat} (h1 : 1 ≤ n) (hn : n ≤ 3) (hk : k < n + 1) (hp : QB (n + 1) 4 12 45 5 p) (hx : BQ 12 9 x) {S : Sto} {Q : D → Sto → Prop} (q : ∀ S', Keep S S' → Q (polD (sumP (fxP k x p))) S') : WV (F__law_fixed [polD p, .int (k : Int), nq x] S) Q := by
  have hk' : KOk n (keysA (fxP k x p)) := PK.kok (fx_pk hp.pk hk) (by decide)
  have hb' := fx_bt hp.pk hk hp.pb.bd hx
  have hpl := hp.len
  unfold F__law_fixed m__law_fixed
  refine wfn [some (polD p), some (.int (k : Int)), some (nq x), none, none, none] rfl ?_
  repeat infer_instance
  refine ws_mid (fun ρ S1 => ∃ a b : Option D, Keep S S1 ∧ SR S1 S.length (accR (fxP k x p)) ∧ ρ = [some (polD p), some (.int (k : Int)), some (nq x), some (.ref S.length), a, b]) ?_ (fun ρ S1 hM => ?_)
  · refine ws_for (p.map termD) (fun j ρ S1 => ∃ (a b : Option D), ρ = [some (polD p), some (.int (k : Int)), some (nq x), some (.ref S.length), a, b] ∧ Keep S S1 ∧ SR S1 S.length (accR ((fxP k x p).take j))) (by rw [List.length_map]; omega) ?_ (fun j y ρ S1 hy hI => ?_) (fun ρ S1 hI => ?_)
    · refine wv_seq ?_
      repeat infer_instance
      exact ⟨_, rfl, ⟨_, _, rfl, Keep.app _ _, get_new⟩, fun _ _ _ _ => sqIs_it⟩
    · obtain ⟨a, b, rfl, kp, hs⟩ := hI
      rw [List.getElem?_map] at hy
      obtain ⟨t, he, rfl⟩ := Option.map_eq_some_iff.mp hy
      have hj := get_lt he
      have ht := List.mem_of_getElem? he
      have te := hp.pk t.1 (List.mem_map.mpr ⟨t, ht, rfl⟩)
      obtain ⟨ge, ge0, ge4⟩ := getE te hk
      obtain ⟨m, hm⟩ : ∃ m : Nat, t.1.getD k 0 = (m : Int) := ⟨(t.1.getD k 0).toNat, by omega⟩
      have he' : (fxP k x p)[j]? = some (delE k t.1, t.2 * x ^ m) := by
        unfold fxP
        rw [List.getElem?_map, he]
        show some (delE k t.1, t.2 * x ^ (t.1.getD k 0).toNat) = _
        rw [hm, Int.toNat_natCast]
      have ts := accR_take hk' hb' j (by unfold fxP; rw [List.length_map]; omega)
      refine ⟨_, unp_d, ?_⟩
      unfold L0__law_fixed
      simp only [set0, setS]
      repeat infer_instance
      refine g_slT ?_
      rw [cut_take]
      repeat infer_instance
      refine g_slT ?_
      rw [show (k : Int) + 1 = ((k + 1 : Nat) : Int) by omega, cut_drop]
      refine g_catT (by rw [List.length_take, List.length_drop, List.length_map, te.1]; omega) ?_
      rw [delE_D]
      repeat infer_instance
      refine g_ixT (k := k) (by rw [List.getElem?_map, ge]; rfl) ?_
      rw [hm]
      repeat infer_instance
      refine w_law_power hx (by omega) ?_
      repeat infer_instance
      have b3 := bq_p3 hx (e := m) (by omega)
      have bt := hp.pb.bd t ht
      refine w_law_mul bt b3 (by decide) (by decide) (by decide +kernel) (by decide +kernel) (by decide +kernel) (by decide +kernel) ?_
      repeat infer_instance
      refine w_put ts.bd (bq_mul bt b3) hs (by decide) (by decide +kernel) (Nat.lt_of_le_of_lt (Nat.mul_le_mul_right _ (Nat.mul_le_mul_left _ (show j ≤ 5 by omega))) (by decide +kernel)) (by decide +kernel) (by have := ts.len; omega) fun S2 k2 hs2 => ?_
      refine ⟨_, _, rfl, kp.thenB (Nat.le_refl _) k2, ?_⟩
      rw [TS'.acc hk' hb' he']
      exact hs2
    · obtain ⟨a, b, rfl, kp, hs⟩ := hI
      have hlen : (fxP k x p).take (p.map termD).length = fxP k x p := List.take_of_length_le (by unfold fxP; rw [List.length_map, List.length_map]; exact Nat.le_refl _)
      rw [hlen] at hs
      exact ⟨_, _, kp, hs, rfl⟩
  · obtain ⟨a, b, kp, hs, rfl⟩ := hM
    repeat infer_instance
    exact w_end hk' hb' (few_len (by unfold keysA fxP; rw [List.length_map, List.length_map]; omega)) h1 hs fun S2 k2 => q _ (kp.trans k2)
theorem w_fixed {p : Pol} {n k : Nat} {x : Rat} (h1 : 1 ≤ n) (hn : n ≤ 3) (hk : k < n + 1) (hp : QB (n + 1) 4 12 45 5 p) (hx : BQ 12 9 x) (hs4 : sz 4 x) {S : Sto} {Q : D → Sto → Prop} (q : ∀ S', Keep S S' → Q (polD (sumP (fxP k x p))) S') : WV (F_fixed [.int ((n + 1 : Nat) : Int), polD p, .int (k : Int), nq x] S) Q := by
  have hk' : KOk n (keysA (fxP k x p)) := PK.kok (fx_pk hp.pk hk) (by decide)
  have hb' := fx_bt hp.pk hk hp.pb.bd hx
  have hpl := hp.len
  have fl : (fxP k x p).length = p.length := by unfold fxP; rw [List.length_map]
  unfold F_fixed m_fixed
  refine wfn [some (.int ((n + 1 : Nat) : Int)), some (polD p), some (.int (k : Int)), some (nq x), none, none, none, none] rfl ?_
  repeat infer_instance
  refine ws_mid (fun ρ S1 => ∃ a b c : Option D, Keep S S1 ∧ S1[S.length]? = some (.lst ((ofP (fxP k x p)).map termN)) ∧ ρ = [some (.int ((n + 1 : Nat) : Int)), some (polD p), some (.int (k : Int)), some (nq x), some (.ref S.length), a, b, c]) ?_ (fun ρ S1 hM => ?_)
  · refine ws_for (p.map termD) (fun j ρ S1 => ∃ (a b c : Option D), Keep S S1 ∧ S1[S.length]? = some (.lst ((ofP ((fxP k x p).take j)).map termN)) ∧ ρ = [some (.int ((n + 1 : Nat) : Int)), some (polD p), some (.int (k : Int)), some (nq x), some (.ref S.length), a, b, c]) (by rw [List.length_map]; omega) ?_ (fun j y ρ S1 hy hI => ?_) (fun ρ S1 hI => ?_)
    · refine wv_seq ?_
      repeat infer_instance
      exact ⟨_, rfl, ⟨_, _, _, Keep.app _ _, get_new, rfl⟩, fun _ _ _ _ => sqIs_it⟩
    · obtain ⟨a, b, c, kp, hl, rfl⟩ := hI
      rw [List.getElem?_map] at hy
      obtain ⟨t, he, rfl⟩ := Option.map_eq_some_iff.mp hy
      have hj := get_lt he
      have ht := List.mem_of_getElem? he
      have te := hp.pk t.1 (List.mem_map.mpr ⟨t, ht, rfl⟩)
      obtain ⟨ge, ge0, ge4⟩ := getE te hk
      obtain ⟨m, hm⟩ : ∃ m : Nat, t.1.getD k 0 = (m : Int) := ⟨(t.1.getD k 0).toNat, by omega⟩
      have he' : (fxP k x p)[j]? = some (delE k t.1, t.2 * x ^ m) := by
        unfold fxP
        rw [List.getElem?_map, he]
        show some (delE k t.1, t.2 * x ^ (t.1.getD k 0).toNat) = _
        rw [hm, Int.toNat_natCast]
      refine ⟨_, unp_d, ?_⟩
      unfold L0_fixed
      simp only [set0, setS]
      repeat infer_instance
      refine g_ixT (k := k) (by rw [List.getElem?_map, ge]; rfl) ?_
      rw [hm]
      repeat infer_instance
      refine wv_of (e_power (n := 4) (k := m) hs4 _ (by decide) (by omega)) ?_
      repeat infer_instance
      have b3 := bq_p3 hx (e := m) (by omega)
      have bt := hp.pb.bd t ht
      refine wv_of (e_times (n := 300) (bq_sz bt (by decide) (by decide +kernel) (by decide +kernel)) (bq_sz b3 (by decide) (by decide +kernel) (by decide +kernel)) _) ?_
      repeat infer_instance
      refine ⟨_, _, rfl, hl, ?_⟩
      repeat infer_instance
      refine g_slT ?_
      rw [cut_take]
      repeat infer_instance
      refine g_slT ?_
      rw [show (k : Int) + 1 = ((k + 1 : Nat) : Int) by omega, cut_drop]
      refine g_catT (by rw [List.length_take, List.length_drop, List.length_map, te.1]; omega) ?_
      rw [delE_D]
      repeat infer_instance
      refine ⟨_, hl, by unfold ofP; rw [List.length_map, List.length_map, List.length_take]; omega, ?_⟩
      refine ⟨_, _, _, kp.put (Nat.le_refl _) _, ?_, rfl⟩
      rw [List.getElem?_set_self (lt_of_get hl), take_next he']
      unfold ofP
      rw [List.map_append, List.map_append]
      rfl
    · obtain ⟨a, b, c, kp, hl, rfl⟩ := hI
      have hlen : (fxP k x p).take (p.map termD).length = fxP k x p := List.take_of_length_le (by rw [List.length_map, fl]; exact Nat.le_refl _)
      rw [hlen] at hl
      exact ⟨_, _, _, kp, hl, rfl⟩
  · obtain ⟨a, b, c, kp, hl, rfl⟩ := hM
    repeat infer_instance
    have ol : (ofP (fxP k x p)).length = p.length := by unfold ofP; rw [List.length_map, fl]
    refine w_collectedG (anySeq_ref hl) (n := n) (L := 20736) (M := 32805) (by rw [keys_of]; exact hk') hb'.of h1 (by decide) (by decide) (by omega) (Nat.lt_of_le_of_lt (Nat.mul_le_mul_right _ (Nat.add_le_add_right (Nat.mul_le_mul_left _ (show (ofP (fxP k x p)).length ≤ 5 by omega)) _)) (by decide)) (few_len (by unfold keysA; rw [List.length_map]; omega)) fun r S2 pb rl rc rk k2 => ?_
    have : r = sumP (fxP k x p) := sumP_eq hk' hb' pb.wf fun e => by rw [rc, rat_of]
    rw [this]
    exact q _ (kp.trans k2)
end Gn

set_option maxHeartbeats 2000000
namespace Gn
open PySem PySem.Spec PyProof.Rows L2 Rf
local macro_rules
  | `(tactic| infer_instance) => `(tactic| with_reducible first
    | apply ws_seq
    | apply ws_ret
    | apply ws_if
    | apply ws_ex
    | apply ws_asg
    | apply ws_par
    | apply ws_dput
    | apply ws_lput
    | apply ws_nil
    | apply ws_retN
    | apply s0
    | apply s1
    | apply s2
    | apply s3
    | apply s4
    | apply s5
    | apply s6
    | apply s7
    | apply s8
    | apply s9
    | apply s10
    | apply s11
    | apply s12
    | apply s13
    | apply s14
    | apply s15
    | apply s16
    | apply s17
    | apply s18
    | apply s19
    | apply s20
    | apply s21
    | apply s22
    | apply s23
    | apply s24
    | apply s25
    | apply wv_op
    | apply wv_un
    | apply wv_bi
    | apply wv_call
    | apply wv_call0
    | apply wv_tup
    | apply wv_lst
    | apply wv_cons
    | apply wv_nil
    | apply wv_T
    | apply wv_tru
    | apply wv_not
    | apply wv_and
    | apply wv_or
    | apply wv_if
    | apply wv_andV
    | apply wv_orV
    | apply wv_yes
    | apply wv_ret
    | apply wv_app
    | apply wv_dget
    | apply wv_dget2
    | apply wv_din
    | apply wv_dct1
    | apply wv_dct0
    | apply wv_sx2
    | apply wv_sxH
    | apply wv_sxL
    | apply exI
    | apply v0
    | apply v1
    | apply v2
    | apply v3
    | apply v4
    | apply v5
    | apply v6
    | apply v7
    | apply v8
    | apply v9
    | apply v10
    | apply v11
    | apply v12
    | apply v13
    | apply v14
    | apply v15
    | apply v16
    | apply v17
    | apply v18
    | apply v19
    | apply v20
    | apply v21
    | apply v22
    | apply v23
    | apply v24
    | apply v25
    | apply g_add
    | apply g_sub
    | apply g_iadd
    | apply g_isub
    | apply g_lt
    | apply g_le
    | apply g_gt
    | apply g_ge
    | apply g_eq
    | apply g_ne
    | apply g_neg
    | apply g_not
    | apply g_gcd
    | apply g_abs
    | apply g_int
    | apply g_intb
    | apply g_nq0
    | apply g_nq1
    | apply g_ix0
    | apply g_ix1
    | apply g_ix2
    | apply g_lenT
    | apply exT
    | apply exTru
    | apply ifT
    | apply ifF
    | apply ifT'
    | apply ifF'
    | apply nf1
    | apply nf2
    | apply nf3
    | apply nf4
    | apply len0
    | apply len1
    | apply len2
    | apply len3
    | apply len4
    )
theorem sml0 : Sml 0 := ⟨bq_zero, ⟨by show (0 : Nat) < 2 ^ 4; decide, by show (1 : Nat) < 2 ^ 4; decide⟩, by decide⟩
theorem g_repP {n : Nat} (h1 : 1 ≤ n) (hn : n ≤ 4) {S : Sto} {Q : D → Sto → Prop} (k : Q (ptD (List.replicate n 0)) S) : WG (gRepT (.tup [.tup [.int 0, .int 1]]) (.int (n : Int)) S) Q := by
  have h : n = 1 ∨ n = 2 ∨ n = 3 ∨ n = 4 := by omega
  rcases h with rfl | rfl | rfl | rfl
  · exact ⟨_, _, rfl, k⟩
  · exact ⟨_, _, rfl, k⟩
  · exact ⟨_, _, rfl, k⟩
  · exact ⟨_, _, rfl, k⟩
theorem moved_same {n : Nat} {p r q : Pol} {a : List Rat} (w1 : WF n r) (k1 : PK n 4 r) (v1 : ∀ pt : List Rat, pt.length = n → vs n pt r = vs n (shP n pt a) p) (w2 : WF n q) (k2 : PK n 32 q) (v2 : ∀ pt : List Rat, pt.length = n → vs n pt q = vs n (shP n pt a) p) : r = q :=
  pol_ext (B := 32) w1 w2 (PK.mono k1 (by decide)) k2 fun pt hl => (v1 pt hl).trans (v2 pt hl).symm
theorem law_true (ns : List Int) (_ : ns.length ≤ 63) : ∃ S', F_law [.fro (ns.map D.int)] [] = some (.val (.bl true) S') := by
  suffices h : WV (F_law [.fro (ns.map D.int)] []) fun d _ => d = .bl true by
    obtain ⟨d, S', e, rfl⟩ := h
    exact ⟨S', e⟩
  unfold F_law m_law
  refine wfn [some (.fro (ns.map D.int)), none, none, none, none, none, none, none] rfl ?_
  repeat infer_instance
  refine ws_for (rngD 0 2) (fun j ρ S1 => ∃ x1 x2 x3 x4 x5 x6 x7 : Option D, ρ = [some (.fro (ns.map D.int)), x1, x2, x3, x4, x5, x6, x7]) (by decide) ?_ (fun j x ρ S1 hx hI => ?_) (fun ρ S1 hI => ?_)
  · refine wv_rng1 ?_
    repeat infer_instance
    exact ⟨_, rfl, by decide, ⟨_, _, _, _, _, _, _, rfl⟩, fun _ _ _ _ => sqIs_it⟩
  · obtain ⟨x1, x2, x3, x4, x5, x6, x7, rfl⟩ := hI
    obtain ⟨t, ht, rfl⟩ := rngD_mem (List.mem_of_getElem? hx)
    refine ⟨_, rfl, ?_⟩
    unfold L0_law
    simp only [tN, set0, setS]
    repeat infer_instance
    refine w_cell fun c => ?_
    repeat infer_instance
    refine w_draws (n := 16) (by decide) fun new S2 di hl hb _ _ hs => ?_
    repeat infer_instance
    refine g_draw (j := 0) hl hb hs (by decide) fun r0 _ _ => ?_
    repeat infer_instance
    refine g_mod (by decide) ?_
    repeat infer_instance
    have b0 := fm (x := r0) (m := 4) (by decide)
    obtain ⟨n, hn⟩ : ∃ n : Nat, 1 + r0.fmod 4 = ((n + 1 : Nat) : Int) := ⟨(r0.fmod 4).toNat, by omega⟩
    rw [hn]
    have n4 : n + 1 ≤ 4 := by omega
    refine w_poly (n := n + 1) (at_ := 1) (most := 5) (high := 3) hs (by omega) n4 (by omega) (by omega) (by decide) (by decide) (by decide) (by decide) fun p S3 hp k3 => ?_
    have hp : QB (n + 1) 4 12 45 5 p := hp
    have hs3 := k3 _ _ hs
    repeat infer_instance
    refine w_pointS hs3 n4 (by omega) (by omega) fun pt0 S4 hpt0 k4 => ?_
    have hs4 := k4 _ _ hs3
    refine ws_cut (fun ρ S5 => ∃ a : List Rat, PtS (n + 1) a ∧ Keep S4 S5 ∧ ρ = [some (.fro (ns.map D.int)), some (.int (t : Int)), some (.ref di), some (.int ((n + 1 : Nat) : Int)), some (polD p), some (ptD a), x6, x7]) ?_ (fun ρ S5 hM => ?_)
    · repeat infer_instance
      refine g_draw (j := 13) hl hb hs4 (by decide) fun r13 _ _ => ?_
      repeat infer_instance
      refine g_mod (by decide) ?_
      repeat infer_instance
      by_cases c1 : r13.fmod 5 = 1
      · rw [decide_eq_true c1]
        refine ⟨fun _ => ?_, fun z => nomatch z⟩
        repeat infer_instance
        refine g_repP (by omega) n4 ?_
        refine ⟨_, ⟨List.length_replicate, fun q hq => ?_⟩, Keep.refl _, rfl⟩
        rw [(List.mem_replicate.mp hq).2]
        exact sml0
      · rw [decide_eq_false c1]
        exact ⟨fun z => (nomatch z), fun _ => ws_nil ⟨pt0, hpt0, Keep.refl _, rfl⟩⟩
    · obtain ⟨a, ha, k5, rfl⟩ := hM
      have hs5 := k5 _ _ hs4
      repeat infer_instance
      refine w_movedG n4 hp ha fun r S6 w1 pk1 v1 k6 => ?_
      repeat infer_instance
      refine w_law_moved (by omega) n4 hp ha.ok fun q S7 w2 pk2 v2 k7 => ?_
      have e := moved_same w1 pk1 v1 w2 pk2 v2
      subst e
      repeat infer_instance
      refine w_sameP w1 (by omega) (Nat.lt_of_le_of_lt (len_256 n4 w1 pk1) (by decide)) fun S8 k8 => ?_
      have hs8 := k8 _ _ (k7 _ _ (k6 _ _ hs5))
      repeat infer_instance
      refine g_draw (j := 14) hl hb hs8 (by decide) fun r14 _ _ => ?_
      repeat infer_instance
      refine g_mod (by omega) ?_
      have b14 := fm (x := r14) (m := ((n + 1 : Nat) : Int)) (by omega)
      obtain ⟨k, hk⟩ : ∃ k : Nat, r14.fmod ((n + 1 : Nat) : Int) = (k : Int) := ⟨(r14.fmod ((n + 1 : Nat) : Int)).toNat, by omega⟩
      rw [hk] at b14 ⊢
      repeat infer_instance
      refine g_draw (j := 15) hl hb hs8 (by decide) fun r15 _ _ => ?_
      repeat infer_instance
      refine w_smallS fun x0 hx0 => ?_
      repeat infer_instance
      have kA := Keep.app S8 [O.lst [nq x0, .tup [.int 0, .int 1]]]
      have gA := get_new (S := S8) (o := O.lst [nq x0, .tup [.int 0, .int 1]])
      have hsA := kA _ _ hs8
      generalize S8.length = ai at gA ⊢
      generalize S8 ++ [O.lst [nq x0, .tup [.int 0, .int 1]]] = S9 at kA gA hsA ⊢
      refine g_draw (j := 13) hl hb hsA (by decide) fun r13 _ _ => ?_
      repeat infer_instance
      refine g_mod (by decide) ?_
      repeat infer_instance
      have pick : ∀ (b : Bool) (Q : D → Sto → Prop), (∀ x, Sml x → Q (nq x) S9) → WG (gIx (.ref ai) (.int (if b = true then 1 else 0)) S9) Q := fun b Q hQ => by
        cases b with
        | true => exact g_ixR (k := 1) gA rfl (hQ 0 sml0)
        | false => exact g_ixR (k := 0) gA rfl (hQ x0 hx0)
      refine pick _ _ fun x hx => ?_
      repeat infer_instance
      by_cases n1 : 1 ≤ n
      · rw [decide_eq_true (by omega)]
        refine ⟨fun _ => ?_, fun z => nomatch z⟩
        repeat infer_instance
        have kn : k < n + 1 := by omega
        refine w_fixed n1 (by omega) kn hp hx.bq hx.sz fun S10 k10 => ?_
        repeat infer_instance
        refine w_law_fixed n1 (by omega) kn hp hx.bq fun S11 k11 => ?_
        repeat infer_instance
        obtain ⟨f1, f2, _, _⟩ := sumP_facts (PK.kok (fx_pk hp.pk kn) (by decide)) (fx_bt hp.pk kn hp.pb.bd hx.bq)
        have fl : (fxP k x p).length = p.length := by unfold fxP; rw [List.length_map]
        have hpl := hp.len
        refine w_sameP f1.wf (by omega) (by omega) fun S12 k12 => ?_
        repeat infer_instance
        exact ⟨_, _, _, _, _, _, _, rfl⟩
      · rw [decide_eq_false (by omega)]
        refine ⟨fun z => (nomatch z), fun _ => ?_⟩
        repeat infer_instance
        exact ⟨_, _, _, _, _, _, _, rfl⟩
  · obtain ⟨x1, x2, x3, x4, x5, x6, x7, rfl⟩ := hI
    repeat infer_instance
    rfl
end Gn

namespace Gn
open PySem PySem.Spec PyProof.Rows L2 Rf
/-- what is promised of the law -/
def spLaw (K : PySem.W.Frag) : Sp := fun vs H Q _ => ∃ (a : Addr) (ns : List Int), vs = [.ref a] ∧ SqL K H a (ns.map V.int) ∧ ns.length ≤ 63 ∧ ∀ H', Q (.bl true) H'
theorem rels_ints {K : PySem.W.Frag} {φ : Nat → Addr} {n : Nat} {H : Hp} : ∀ ns : List Int, Rels K φ n H (ns.map V.int) (ns.map D.int)
  | [] => .nil
  | x :: r => .cons (.int x) (rels_ints r)
theorem law_sp {K : PySem.W.Frag} {ec : Str → Value} {F : List D → Sto → Option (R D)} (h : ∀ ns : List Int, ns.length ≤ 63 → ∃ S', F [.fro (ns.map D.int)] [] = some (.val (.bl true) S')) : ∀ vs H Q E, spLaw K vs H Q E → spF K ec 1 F vs H Q E := by
  intro vs H Q E hs
  obtain ⟨a, ns, rfl, hS, hl, q⟩ := hs
  obtain ⟨S', e⟩ := h ns hl
  refine ⟨fun _ => 0, [], [.fro (ns.map D.int)], ⟨fun i o z => by simp at z, fun i j z => absurd z (by simp)⟩, .cons (.fro ?_ (rels_ints ns)) .nil, rfl, _, e, fun φ' H' v ex ok r => ?_⟩
  · rcases hS with hS | hS
    · exact .inl ⟨hS, fun i z => absurd z (by simp)⟩
    · exact .inr hS
  · cases r
    exact q H'
theorem cx_none {P : Program} {w : World} {H : Hp} {s : Shared} {e : Value} {s' : Shared} (h : L2.CX P w [] H s (fun _ _ _ => False) e s') : False := by
  obtain ⟨_, _, _, _, _, _, _, _, _, _, _, _, z⟩ := h
  exact z
theorem all_mk {P : Program} {w : World} {K : PySem.W.Frag} {h : Heap} {mg : Str → Option Value} {fa : Addr} (X : K.In h) (G : h.Ns mainGlobals mg) (hfa : mg "law" = some (.ref fa))
    {f0 : Addr} {od0 an0 : Option Addr} {sl0 : Array (Option Value)} {oc0 kV0 dc0 pm0 cd0 ct0 : Value}
    (a0 : PySem.W.nsIn K mainGlobals "number" = some (some (.ref f0))) (l0 : K.lookup f0 = some ⟨oc0, od0, .func (PySem.W.fnOf "number" "number" (defArgs s_number) (defBody s_number) (defScope s_number) .none kV0 dc0 pm0 an0 cd0 ct0), sl0⟩) (c0 : PySem.W.codeIn K cd0 "number" = true) (k0 : PySem.W.keepIn K (.ref f0) = true)
    {f1 : Addr} {od1 an1 : Option Addr} {sl1 : Array (Option Value)} {oc1 kV1 dc1 pm1 cd1 ct1 : Value}
    (a1 : PySem.W.nsIn K mainGlobals "loose_plus" = some (some (.ref f1))) (l1 : K.lookup f1 = some ⟨oc1, od1, .func (PySem.W.fnOf "loose_plus" "loose_plus" (defArgs s_loose_plus) (defBody s_loose_plus) (defScope s_loose_plus) .none kV1 dc1 pm1 an1 cd1 ct1), sl1⟩) (c1 : PySem.W.codeIn K cd1 "loose_plus" = true) (k1 : PySem.W.keepIn K (.ref f1) = true)
    {f2 : Addr} {od2 an2 : Option Addr} {sl2 : Array (Option Value)} {oc2 kV2 dc2 pm2 cd2 ct2 : Value}
    (a2 : PySem.W.nsIn K mainGlobals "times" = some (some (.ref f2))) (l2 : K.lookup f2 = some ⟨oc2, od2, .func (PySem.W.fnOf "times" "times" (defArgs s_times) (defBody s_times) (defScope s_times) .none kV2 dc2 pm2 an2 cd2 ct2), sl2⟩) (c2 : PySem.W.codeIn K cd2 "times" = true) (k2 : PySem.W.keepIn K (.ref f2) = true)
    {f3 : Addr} {od3 an3 : Option Addr} {sl3 : Array (Option Value)} {oc3 kV3 dc3 pm3 cd3 ct3 : Value}
    (a3 : PySem.W.nsIn K mainGlobals "whole_power" = some (some (.ref f3))) (l3 : K.lookup f3 = some ⟨oc3, od3, .func (PySem.W.fnOf "whole_power" "whole_power" (defArgs s_whole_power) (defBody s_whole_power) (defScope s_whole_power) .none kV3 dc3 pm3 an3 cd3 ct3), sl3⟩) (c3 : PySem.W.codeIn K cd3 "whole_power" = true) (k3 : PySem.W.keepIn K (.ref f3) = true)
    {f4 : Addr} {od4 an4 : Option Addr} {sl4 : Array (Option Value)} {oc4 kV4 dc4 pm4 cd4 ct4 : Value}
    (a4 : PySem.W.nsIn K mainGlobals "power" = some (some (.ref f4))) (l4 : K.lookup f4 = some ⟨oc4, od4, .func (PySem.W.fnOf "power" "power" (defArgs s_power) (defBody s_power) (defScope s_power) .none kV4 dc4 pm4 an4 cd4 ct4), sl4⟩) (c4 : PySem.W.codeIn K cd4 "power" = true) (k4 : PySem.W.keepIn K (.ref f4) = true)
    {f5 : Addr} {od5 an5 : Option Addr} {sl5 : Array (Option Value)} {oc5 kV5 dc5 pm5 cd5 ct5 : Value}
    (a5 : PySem.W.nsIn K mainGlobals "_collected" = some (some (.ref f5))) (l5 : K.lookup f5 = some ⟨oc5, od5, .func (PySem.W.fnOf "_collected" "_collected" (defArgs s__collected) (defBody s__collected) (defScope s__collected) .none kV5 dc5 pm5 an5 cd5 ct5), sl5⟩) (c5 : PySem.W.codeIn K cd5 "_collected" = true) (k5 : PySem.W.keepIn K (.ref f5) = true)
    {f6 : Addr} {od6 an6 : Option Addr} {sl6 : Array (Option Value)} {oc6 kV6 dc6 pm6 cd6 ct6 : Value}
    (a6 : PySem.W.nsIn K mainGlobals "_add_term" = some (some (.ref f6))) (l6 : K.lookup f6 = some ⟨oc6, od6, .func (PySem.W.fnOf "_add_term" "_add_term" (defArgs s__add_term) (defBody s__add_term) (defScope s__add_term) .none kV6 dc6 pm6 an6 cd6 ct6), sl6⟩) (c6 : PySem.W.codeIn K cd6 "_add_term" = true) (k6 : PySem.W.keepIn K (.ref f6) = true)
    {f7 : Addr} {od7 an7 : Option Addr} {sl7 : Array (Option Value)} {oc7 kV7 dc7 pm7 cd7 ct7 : Value}
    (a7 : PySem.W.nsIn K mainGlobals "_from_table" = some (some (.ref f7))) (l7 : K.lookup f7 = some ⟨oc7, od7, .func (PySem.W.fnOf "_from_table" "_from_table" (defArgs s__from_table) (defBody s__from_table) (defScope s__from_table) .none kV7 dc7 pm7 an7 cd7 ct7), sl7⟩) (c7 : PySem.W.codeIn K cd7 "_from_table" = true) (k7 : PySem.W.keepIn K (.ref f7) = true)
    {f8 : Addr} {od8 an8 : Option Addr} {sl8 : Array (Option Value)} {oc8 kV8 dc8 pm8 cd8 ct8 : Value}
    (a8 : PySem.W.nsIn K mainGlobals "_with_exponent" = some (some (.ref f8))) (l8 : K.lookup f8 = some ⟨oc8, od8, .func (PySem.W.fnOf "_with_exponent" "_with_exponent" (defArgs s__with_exponent) (defBody s__with_exponent) (defScope s__with_exponent) .none kV8 dc8 pm8 an8 cd8 ct8), sl8⟩) (c8 : PySem.W.codeIn K cd8 "_with_exponent" = true) (k8 : PySem.W.keepIn K (.ref f8) = true)
    {f9 : Addr} {od9 an9 : Option Addr} {sl9 : Array (Option Value)} {oc9 kV9 dc9 pm9 cd9 ct9 : Value}
    (a9 : PySem.W.nsIn K mainGlobals "moved" = some (some (.ref f9))) (l9 : K.lookup f9 = some ⟨oc9, od9, .func (PySem.W.fnOf "moved" "moved" (defArgs s_moved) (defBody s_moved) (defScope s_moved) .none kV9 dc9 pm9 an9 cd9 ct9), sl9⟩) (c9 : PySem.W.codeIn K cd9 "moved" = true) (k9 : PySem.W.keepIn K (.ref f9) = true)
    {f10 : Addr} {od10 an10 : Option Addr} {sl10 : Array (Option Value)} {oc10 kV10 dc10 pm10 cd10 ct10 : Value}
    (a10 : PySem.W.nsIn K mainGlobals "_moved_along" = some (some (.ref f10))) (l10 : K.lookup f10 = some ⟨oc10, od10, .func (PySem.W.fnOf "_moved_along" "_moved_along" (defArgs s__moved_along) (defBody s__moved_along) (defScope s__moved_along) .none kV10 dc10 pm10 an10 cd10 ct10), sl10⟩) (c10 : PySem.W.codeIn K cd10 "_moved_along" = true) (k10 : PySem.W.keepIn K (.ref f10) = true)
    {f11 : Addr} {od11 an11 : Option Addr} {sl11 : Array (Option Value)} {oc11 kV11 dc11 pm11 cd11 ct11 : Value}
    (a11 : PySem.W.nsIn K mainGlobals "_moved_row" = some (some (.ref f11))) (l11 : K.lookup f11 = some ⟨oc11, od11, .func (PySem.W.fnOf "_moved_row" "_moved_row" (defArgs s__moved_row) (defBody s__moved_row) (defScope s__moved_row) .none kV11 dc11 pm11 an11 cd11 ct11), sl11⟩) (c11 : PySem.W.codeIn K cd11 "_moved_row" = true) (k11 : PySem.W.keepIn K (.ref f11) = true)
    {f12 : Addr} {od12 an12 : Option Addr} {sl12 : Array (Option Value)} {oc12 kV12 dc12 pm12 cd12 ct12 : Value}
    (a12 : PySem.W.nsIn K mainGlobals "fixed" = some (some (.ref f12))) (l12 : K.lookup f12 = some ⟨oc12, od12, .func (PySem.W.fnOf "fixed" "fixed" (defArgs s_fixed) (defBody s_fixed) (defScope s_fixed) .none kV12 dc12 pm12 an12 cd12 ct12), sl12⟩) (c12 : PySem.W.codeIn K cd12 "fixed" = true) (k12 : PySem.W.keepIn K (.ref f12) = true)
    {f13 : Addr} {od13 an13 : Option Addr} {sl13 : Array (Option Value)} {oc13 kV13 dc13 pm13 cd13 ct13 : Value}
    (a13 : PySem.W.nsIn K mainGlobals "_law_cell" = some (some (.ref f13))) (l13 : K.lookup f13 = some ⟨oc13, od13, .func (PySem.W.fnOf "_law_cell" "_law_cell" (defArgs s__law_cell) (defBody s__law_cell) (defScope s__law_cell) .none kV13 dc13 pm13 an13 cd13 ct13), sl13⟩) (c13 : PySem.W.codeIn K cd13 "_law_cell" = true) (k13 : PySem.W.keepIn K (.ref f13) = true)
    {f14 : Addr} {od14 an14 : Option Addr} {sl14 : Array (Option Value)} {oc14 kV14 dc14 pm14 cd14 ct14 : Value}
    (a14 : PySem.W.nsIn K mainGlobals "_law_draws" = some (some (.ref f14))) (l14 : K.lookup f14 = some ⟨oc14, od14, .func (PySem.W.fnOf "_law_draws" "_law_draws" (defArgs s__law_draws) (defBody s__law_draws) (defScope s__law_draws) .none kV14 dc14 pm14 an14 cd14 ct14), sl14⟩) (c14 : PySem.W.codeIn K cd14 "_law_draws" = true) (k14 : PySem.W.keepIn K (.ref f14) = true)
    {f15 : Addr} {od15 an15 : Option Addr} {sl15 : Array (Option Value)} {oc15 kV15 dc15 pm15 cd15 ct15 : Value}
    (a15 : PySem.W.nsIn K mainGlobals "_law_is_int" = some (some (.ref f15))) (l15 : K.lookup f15 = some ⟨oc15, od15, .func (PySem.W.fnOf "_law_is_int" "_law_is_int" (defArgs s__law_is_int) (defBody s__law_is_int) (defScope s__law_is_int) .none kV15 dc15 pm15 an15 cd15 ct15), sl15⟩) (c15 : PySem.W.codeIn K cd15 "_law_is_int" = true) (k15 : PySem.W.keepIn K (.ref f15) = true)
    {f16 : Addr} {od16 an16 : Option Addr} {sl16 : Array (Option Value)} {oc16 kV16 dc16 pm16 cd16 ct16 : Value}
    (a16 : PySem.W.nsIn K mainGlobals "_law_is_text" = some (some (.ref f16))) (l16 : K.lookup f16 = some ⟨oc16, od16, .func (PySem.W.fnOf "_law_is_text" "_law_is_text" (defArgs s__law_is_text) (defBody s__law_is_text) (defScope s__law_is_text) .none kV16 dc16 pm16 an16 cd16 ct16), sl16⟩) (c16 : PySem.W.codeIn K cd16 "_law_is_text" = true) (k16 : PySem.W.keepIn K (.ref f16) = true)
    {f17 : Addr} {od17 an17 : Option Addr} {sl17 : Array (Option Value)} {oc17 kV17 dc17 pm17 cd17 ct17 : Value}
    (a17 : PySem.W.nsIn K mainGlobals "_law_is_number" = some (some (.ref f17))) (l17 : K.lookup f17 = some ⟨oc17, od17, .func (PySem.W.fnOf "_law_is_number" "_law_is_number" (defArgs s__law_is_number) (defBody s__law_is_number) (defScope s__law_is_number) .none kV17 dc17 pm17 an17 cd17 ct17), sl17⟩) (c17 : PySem.W.codeIn K cd17 "_law_is_number" = true) (k17 : PySem.W.keepIn K (.ref f17) = true)
    {f18 : Addr} {od18 an18 : Option Addr} {sl18 : Array (Option Value)} {oc18 kV18 dc18 pm18 cd18 ct18 : Value}
    (a18 : PySem.W.nsIn K mainGlobals "_law_gcd" = some (some (.ref f18))) (l18 : K.lookup f18 = some ⟨oc18, od18, .func (PySem.W.fnOf "_law_gcd" "_law_gcd" (defArgs s__law_gcd) (defBody s__law_gcd) (defScope s__law_gcd) .none kV18 dc18 pm18 an18 cd18 ct18), sl18⟩) (c18 : PySem.W.codeIn K cd18 "_law_gcd" = true) (k18 : PySem.W.keepIn K (.ref f18) = true)
    {f19 : Addr} {od19 an19 : Option Addr} {sl19 : Array (Option Value)} {oc19 kV19 dc19 pm19 cd19 ct19 : Value}
    (a19 : PySem.W.nsIn K mainGlobals "_law_frac" = some (some (.ref f19))) (l19 : K.lookup f19 = some ⟨oc19, od19, .func (PySem.W.fnOf "_law_frac" "_law_frac" (defArgs s__law_frac) (defBody s__law_frac) (defScope s__law_frac) .none kV19 dc19 pm19 an19 cd19 ct19), sl19⟩) (c19 : PySem.W.codeIn K cd19 "_law_frac" = true) (k19 : PySem.W.keepIn K (.ref f19) = true)
    {f20 : Addr} {od20 an20 : Option Addr} {sl20 : Array (Option Value)} {oc20 kV20 dc20 pm20 cd20 ct20 : Value}
    (a20 : PySem.W.nsIn K mainGlobals "_law_add" = some (some (.ref f20))) (l20 : K.lookup f20 = some ⟨oc20, od20, .func (PySem.W.fnOf "_law_add" "_law_add" (defArgs s__law_add) (defBody s__law_add) (defScope s__law_add) .none kV20 dc20 pm20 an20 cd20 ct20), sl20⟩) (c20 : PySem.W.codeIn K cd20 "_law_add" = true) (k20 : PySem.W.keepIn K (.ref f20) = true)
    {f21 : Addr} {od21 an21 : Option Addr} {sl21 : Array (Option Value)} {oc21 kV21 dc21 pm21 cd21 ct21 : Value}
    (a21 : PySem.W.nsIn K mainGlobals "_law_mul" = some (some (.ref f21))) (l21 : K.lookup f21 = some ⟨oc21, od21, .func (PySem.W.fnOf "_law_mul" "_law_mul" (defArgs s__law_mul) (defBody s__law_mul) (defScope s__law_mul) .none kV21 dc21 pm21 an21 cd21 ct21), sl21⟩) (c21 : PySem.W.codeIn K cd21 "_law_mul" = true) (k21 : PySem.W.keepIn K (.ref f21) = true)
    {f22 : Addr} {od22 an22 : Option Addr} {sl22 : Array (Option Value)} {oc22 kV22 dc22 pm22 cd22 ct22 : Value}
    (a22 : PySem.W.nsIn K mainGlobals "_law_power" = some (some (.ref f22))) (l22 : K.lookup f22 = some ⟨oc22, od22, .func (PySem.W.fnOf "_law_power" "_law_power" (defArgs s__law_power) (defBody s__law_power) (defScope s__law_power) .none kV22 dc22 pm22 an22 cd22 ct22), sl22⟩) (c22 : PySem.W.codeIn K cd22 "_law_power" = true) (k22 : PySem.W.keepIn K (.ref f22) = true)
    {f23 : Addr} {od23 an23 : Option Addr} {sl23 : Array (Option Value)} {oc23 kV23 dc23 pm23 cd23 ct23 : Value}
    (a23 : PySem.W.nsIn K mainGlobals "_law_same" = some (some (.ref f23))) (l23 : K.lookup f23 = some ⟨oc23, od23, .func (PySem.W.fnOf "_law_same" "_law_same" (defArgs s__law_same) (defBody s__law_same) (defScope s__law_same) .none kV23 dc23 pm23 an23 cd23 ct23), sl23⟩) (c23 : PySem.W.codeIn K cd23 "_law_same" = true) (k23 : PySem.W.keepIn K (.ref f23) = true)
    {f24 : Addr} {od24 an24 : Option Addr} {sl24 : Array (Option Value)} {oc24 kV24 dc24 pm24 cd24 ct24 : Value}
    (a24 : PySem.W.nsIn K mainGlobals "_law_small" = some (some (.ref f24))) (l24 : K.lookup f24 = some ⟨oc24, od24, .func (PySem.W.fnOf "_law_small" "_law_small" (defArgs s__law_small) (defBody s__law_small) (defScope s__law_small) .none kV24 dc24 pm24 an24 cd24 ct24), sl24⟩) (c24 : PySem.W.codeIn K cd24 "_law_small" = true) (k24 : PySem.W.keepIn K (.ref f24) = true)
    {f25 : Addr} {od25 an25 : Option Addr} {sl25 : Array (Option Value)} {oc25 kV25 dc25 pm25 cd25 ct25 : Value}
    (a25 : PySem.W.nsIn K mainGlobals "_law_tidy" = some (some (.ref f25))) (l25 : K.lookup f25 = some ⟨oc25, od25, .func (PySem.W.fnOf "_law_tidy" "_law_tidy" (defArgs s__law_tidy) (defBody s__law_tidy) (defScope s__law_tidy) .none kV25 dc25 pm25 an25 cd25 ct25), sl25⟩) (c25 : PySem.W.codeIn K cd25 "_law_tidy" = true) (k25 : PySem.W.keepIn K (.ref f25) = true)
    {f26 : Addr} {od26 an26 : Option Addr} {sl26 : Array (Option Value)} {oc26 kV26 dc26 pm26 cd26 ct26 : Value}
    (a26 : PySem.W.nsIn K mainGlobals "_law_put" = some (some (.ref f26))) (l26 : K.lookup f26 = some ⟨oc26, od26, .func (PySem.W.fnOf "_law_put" "_law_put" (defArgs s__law_put) (defBody s__law_put) (defScope s__law_put) .none kV26 dc26 pm26 an26 cd26 ct26), sl26⟩) (c26 : PySem.W.codeIn K cd26 "_law_put" = true) (k26 : PySem.W.keepIn K (.ref f26) = true)
    {f27 : Addr} {od27 an27 : Option Addr} {sl27 : Array (Option Value)} {oc27 kV27 dc27 pm27 cd27 ct27 : Value}
    (a27 : PySem.W.nsIn K mainGlobals "_law_padd" = some (some (.ref f27))) (l27 : K.lookup f27 = some ⟨oc27, od27, .func (PySem.W.fnOf "_law_padd" "_law_padd" (defArgs s__law_padd) (defBody s__law_padd) (defScope s__law_padd) .none kV27 dc27 pm27 an27 cd27 ct27), sl27⟩) (c27 : PySem.W.codeIn K cd27 "_law_padd" = true) (k27 : PySem.W.keepIn K (.ref f27) = true)
    {f28 : Addr} {od28 an28 : Option Addr} {sl28 : Array (Option Value)} {oc28 kV28 dc28 pm28 cd28 ct28 : Value}
    (a28 : PySem.W.nsIn K mainGlobals "_law_pmul" = some (some (.ref f28))) (l28 : K.lookup f28 = some ⟨oc28, od28, .func (PySem.W.fnOf "_law_pmul" "_law_pmul" (defArgs s__law_pmul) (defBody s__law_pmul) (defScope s__law_pmul) .none kV28 dc28 pm28 an28 cd28 ct28), sl28⟩) (c28 : PySem.W.codeIn K cd28 "_law_pmul" = true) (k28 : PySem.W.keepIn K (.ref f28) = true)
    {f29 : Addr} {od29 an29 : Option Addr} {sl29 : Array (Option Value)} {oc29 kV29 dc29 pm29 cd29 ct29 : Value}
    (a29 : PySem.W.nsIn K mainGlobals "_law_const" = some (some (.ref f29))) (l29 : K.lookup f29 = some ⟨oc29, od29, .func (PySem.W.fnOf "_law_const" "_law_const" (defArgs s__law_const) (defBody s__law_const) (defScope s__law_const) .none kV29 dc29 pm29 an29 cd29 ct29), sl29⟩) (c29 : PySem.W.codeIn K cd29 "_law_const" = true) (k29 : PySem.W.keepIn K (.ref f29) = true)
    {f30 : Addr} {od30 an30 : Option Addr} {sl30 : Array (Option Value)} {oc30 kV30 dc30 pm30 cd30 ct30 : Value}
    (a30 : PySem.W.nsIn K mainGlobals "_law_var" = some (some (.ref f30))) (l30 : K.lookup f30 = some ⟨oc30, od30, .func (PySem.W.fnOf "_law_var" "_law_var" (defArgs s__law_var) (defBody s__law_var) (defScope s__law_var) .none kV30 dc30 pm30 an30 cd30 ct30), sl30⟩) (c30 : PySem.W.codeIn K cd30 "_law_var" = true) (k30 : PySem.W.keepIn K (.ref f30) = true)
    {f31 : Addr} {od31 an31 : Option Addr} {sl31 : Array (Option Value)} {oc31 kV31 dc31 pm31 cd31 ct31 : Value}
    (a31 : PySem.W.nsIn K mainGlobals "_law_ppow" = some (some (.ref f31))) (l31 : K.lookup f31 = some ⟨oc31, od31, .func (PySem.W.fnOf "_law_ppow" "_law_ppow" (defArgs s__law_ppow) (defBody s__law_ppow) (defScope s__law_ppow) .none kV31 dc31 pm31 an31 cd31 ct31), sl31⟩) (c31 : PySem.W.codeIn K cd31 "_law_ppow" = true) (k31 : PySem.W.keepIn K (.ref f31) = true)
    {f32 : Addr} {od32 an32 : Option Addr} {sl32 : Array (Option Value)} {oc32 kV32 dc32 pm32 cd32 ct32 : Value}
    (a32 : PySem.W.nsIn K mainGlobals "_law_moved" = some (some (.ref f32))) (l32 : K.lookup f32 = some ⟨oc32, od32, .func (PySem.W.fnOf "_law_moved" "_law_moved" (defArgs s__law_moved) (defBody s__law_moved) (defScope s__law_moved) .none kV32 dc32 pm32 an32 cd32 ct32), sl32⟩) (c32 : PySem.W.codeIn K cd32 "_law_moved" = true) (k32 : PySem.W.keepIn K (.ref f32) = true)
    {f33 : Addr} {od33 an33 : Option Addr} {sl33 : Array (Option Value)} {oc33 kV33 dc33 pm33 cd33 ct33 : Value}
    (a33 : PySem.W.nsIn K mainGlobals "_law_fixed" = some (some (.ref f33))) (l33 : K.lookup f33 = some ⟨oc33, od33, .func (PySem.W.fnOf "_law_fixed" "_law_fixed" (defArgs s__law_fixed) (defBody s__law_fixed) (defScope s__law_fixed) .none kV33 dc33 pm33 an33 cd33 ct33), sl33⟩) (c33 : PySem.W.codeIn K cd33 "_law_fixed" = true) (k33 : PySem.W.keepIn K (.ref f33) = true)
    {f34 : Addr} {od34 an34 : Option Addr} {sl34 : Array (Option Value)} {oc34 kV34 dc34 pm34 cd34 ct34 : Value}
    (a34 : PySem.W.nsIn K mainGlobals "_law_poly" = some (some (.ref f34))) (l34 : K.lookup f34 = some ⟨oc34, od34, .func (PySem.W.fnOf "_law_poly" "_law_poly" (defArgs s__law_poly) (defBody s__law_poly) (defScope s__law_poly) .none kV34 dc34 pm34 an34 cd34 ct34), sl34⟩) (c34 : PySem.W.codeIn K cd34 "_law_poly" = true) (k34 : PySem.W.keepIn K (.ref f34) = true)
    {f35 : Addr} {od35 an35 : Option Addr} {sl35 : Array (Option Value)} {oc35 kV35 dc35 pm35 cd35 ct35 : Value}
    (a35 : PySem.W.nsIn K mainGlobals "_law_point" = some (some (.ref f35))) (l35 : K.lookup f35 = some ⟨oc35, od35, .func (PySem.W.fnOf "_law_point" "_law_point" (defArgs s__law_point) (defBody s__law_point) (defScope s__law_point) .none kV35 dc35 pm35 an35 cd35 ct35), sl35⟩) (c35 : PySem.W.codeIn K cd35 "_law_point" = true) (k35 : PySem.W.keepIn K (.ref f35) = true)
    {f36 : Addr} {od36 an36 : Option Addr} {sl36 : Array (Option Value)} {oc36 kV36 dc36 pm36 cd36 ct36 : Value}
    (a36 : PySem.W.nsIn K mainGlobals "law" = some (some (.ref f36))) (l36 : K.lookup f36 = some ⟨oc36, od36, .func (PySem.W.fnOf "law" "law" (defArgs s_law) (defBody s_law) (defScope s_law) .none kV36 dc36 pm36 an36 cd36 ct36), sl36⟩) (c36 : PySem.W.codeIn K cd36 "law" = true) (k36 : PySem.W.keepIn K (.ref f36) = true)
    (z_abs : PySem.W.nsIn K mainGlobals "abs" = some none)
    (z_bool : PySem.W.nsIn K mainGlobals "bool" = some none)
    (z_int : PySem.W.nsIn K mainGlobals "int" = some none)
    (z_isinstance : PySem.W.nsIn K mainGlobals "isinstance" = some none)
    (z_len : PySem.W.nsIn K mainGlobals "len" = some none)
    (z_list : PySem.W.nsIn K mainGlobals "list" = some none)
    (z_range : PySem.W.nsIn K mainGlobals "range" = some none)
    (z_reversed : PySem.W.nsIn K mainGlobals "reversed" = some none)
    (z_sorted : PySem.W.nsIn K mainGlobals "sorted" = some none)
    (z_str : PySem.W.nsIn K mainGlobals "str" = some none)
    (z_tuple : PySem.W.nsIn K mainGlobals "tuple" = some none)
    (z_gcd : PySem.W.nsIn K mainGlobals "gcd" = some (some (.builtin "math.gcd")))
    (z_lcm : PySem.W.nsIn K mainGlobals "lcm" = some (some (.builtin "math.lcm")))
    {c_BadNumber : Addr} (g_BadNumber : PySem.W.nsIn K mainGlobals "BadNumber" = some (some (.ref c_BadNumber))) (x_BadNumber : PySem.W.excIn K c_BadNumber [.type "ValueError", .type "Exception", .type "BaseException", .type "object"] "ValueError.__new__" = true) (k_BadNumber : PySem.W.keepIn K (.ref c_BadNumber) = true) (s_BadNumber : PySem.W.subIn K (.ref c_BadNumber) (.type "BaseException") = some true) (t_BadNumber : PySem.W.typeIn K (.ref c_BadNumber) = some (.type "type")) :
    ∃ fd : FuncData, (∀ (s : Shared) (v : Value), BindsTo s fd ⟨[v], []⟩ [("script", v)]) ∧ ∀ base : Heap, K.In base → base.Ns mainGlobals mg → FnOk P w K mg base (L2.CX P w) 44 fa fd ["script"] (spLaw K) := by
  have e : fa = f36 := Value.ref.inj (Option.some.inj (hfa.symm.trans (PySem.W.mg_of X G a36)))
  subst e
  have T : Txt K mg ⟨f0, _, f1, _, f2, _, f3, _, f4, _, f5, _, f6, _, f7, _, f8, _, f9, _, f10, _, f11, _, f12, _, f13, _, f14, _, f15, _, f16, _, f17, _, f18, _, f19, _, f20, _, f21, _, f22, _, f23, _, f24, _, f25, _, f26, _, f27, _, f28, _, f29, _, f30, _, f31, _, f32, _, f33, _, f34, _, f35, _, fa, _, 0, c_BadNumber⟩ := { F_number := fun_mk (st := s_number) l0 c0 k0, b_number := (fun_mk (st := s_number) l0 c0 k0).binds (ps := ["a", "b"]) (fun _ _ _ _ _ _ us hl => match us, hl with | [_, _], _ => rfl), g_number := PySem.W.mg_of X G a0, F_loose_plus := fun_mk (st := s_loose_plus) l1 c1 k1, b_loose_plus := (fun_mk (st := s_loose_plus) l1 c1 k1).binds (ps := ["x", "y"]) (fun _ _ _ _ _ _ us hl => match us, hl with | [_, _], _ => rfl), g_loose_plus := PySem.W.mg_of X G a1, F_times := fun_mk (st := s_times) l2 c2 k2, b_times := (fun_mk (st := s_times) l2 c2 k2).binds (ps := ["x", "y"]) (fun _ _ _ _ _ _ us hl => match us, hl with | [_, _], _ => rfl), g_times := PySem.W.mg_of X G a2, F_whole_power := fun_mk (st := s_whole_power) l3 c3 k3, b_whole_power := (fun_mk (st := s_whole_power) l3 c3 k3).binds (ps := ["a", "k"]) (fun _ _ _ _ _ _ us hl => match us, hl with | [_, _], _ => rfl), g_whole_power := PySem.W.mg_of X G a3, F_power := fun_mk (st := s_power) l4 c4 k4, b_power := (fun_mk (st := s_power) l4 c4 k4).binds (ps := ["x", "k"]) (fun _ _ _ _ _ _ us hl => match us, hl with | [_, _], _ => rfl), g_power := PySem.W.mg_of X G a4, F__collected := fun_mk (st := s__collected) l5 c5 k5, b__collected := (fun_mk (st := s__collected) l5 c5 k5).binds (ps := ["pairs"]) (fun _ _ _ _ _ _ us hl => match us, hl with | [_], _ => rfl), g__collected := PySem.W.mg_of X G a5, F__add_term := fun_mk (st := s__add_term) l6 c6 k6, b__add_term := (fun_mk (st := s__add_term) l6 c6 k6).binds (ps := ["table", "exponents", "coefficient"]) (fun _ _ _ _ _ _ us hl => match us, hl with | [_, _, _], _ => rfl), g__add_term := PySem.W.mg_of X G a6, F__from_table := fun_mk (st := s__from_table) l7 c7 k7, b__from_table := (fun_mk (st := s__from_table) l7 c7 k7).binds (ps := ["table"]) (fun _ _ _ _ _ _ us hl => match us, hl with | [_], _ => rfl), g__from_table := PySem.W.mg_of X G a7, F__with_exponent := fun_mk (st := s__with_exponent) l8 c8 k8, b__with_exponent := (fun_mk (st := s__with_exponent) l8 c8 k8).binds (ps := ["exponents", "k", "e"]) (fun _ _ _ _ _ _ us hl => match us, hl with | [_, _, _], _ => rfl), g__with_exponent := PySem.W.mg_of X G a8, F_moved := fun_mk (st := s_moved) l9 c9 k9, b_moved := (fun_mk (st := s_moved) l9 c9 k9).binds (ps := ["n", "p", "point"]) (fun _ _ _ _ _ _ us hl => match us, hl with | [_, _, _], _ => rfl), g_moved := PySem.W.mg_of X G a9, F__moved_along := fun_mk (st := s__moved_along) l10 c10 k10, b__moved_along := (fun_mk (st := s__moved_along) l10 c10 k10).binds (ps := ["p", "k", "x"]) (fun _ _ _ _ _ _ us hl => match us, hl with | [_, _, _], _ => rfl), g__moved_along := PySem.W.mg_of X G a10, F__moved_row := fun_mk (st := s__moved_row) l11 c11 k11, b__moved_row := (fun_mk (st := s__moved_row) l11 c11 k11).binds (ps := ["row", "x"]) (fun _ _ _ _ _ _ us hl => match us, hl with | [_, _], _ => rfl), g__moved_row := PySem.W.mg_of X G a11, F_fixed := fun_mk (st := s_fixed) l12 c12 k12, b_fixed := (fun_mk (st := s_fixed) l12 c12 k12).binds (ps := ["n", "p", "k", "x"]) (fun _ _ _ _ _ _ us hl => match us, hl with | [_, _, _, _], _ => rfl), g_fixed := PySem.W.mg_of X G a12, F__law_cell := fun_mk (st := s__law_cell) l13 c13 k13, b__law_cell := (fun_mk (st := s__law_cell) l13 c13 k13).binds (ps := ["script", "k"]) (fun _ _ _ _ _ _ us hl => match us, hl with | [_, _], _ => rfl), g__law_cell := PySem.W.mg_of X G a13, F__law_draws := fun_mk (st := s__law_draws) l14 c14 k14, b__law_draws := (fun_mk (st := s__law_draws) l14 c14 k14).binds (ps := ["cell", "count"]) (fun _ _ _ _ _ _ us hl => match us, hl with | [_, _], _ => rfl), g__law_draws := PySem.W.mg_of X G a14, F__law_is_int := fun_mk (st := s__law_is_int) l15 c15 k15, b__law_is_int := (fun_mk (st := s__law_is_int) l15 c15 k15).binds (ps := ["x"]) (fun _ _ _ _ _ _ us hl => match us, hl with | [_], _ => rfl), g__law_is_int := PySem.W.mg_of X G a15, F__law_is_text := fun_mk (st := s__law_is_text) l16 c16 k16, b__law_is_text := (fun_mk (st := s__law_is_text) l16 c16 k16).binds (ps := ["x", "due"]) (fun _ _ _ _ _ _ us hl => match us, hl with | [_, _], _ => rfl), g__law_is_text := PySem.W.mg_of X G a16, F__law_is_number := fun_mk (st := s__law_is_number) l17 c17 k17, b__law_is_number := (fun_mk (st := s__law_is_number) l17 c17 k17).binds (ps := ["x", "due"]) (fun _ _ _ _ _ _ us hl => match us, hl with | [_, _], _ => rfl), g__law_is_number := PySem.W.mg_of X G a17, F__law_gcd := fun_mk (st := s__law_gcd) l18 c18 k18, b__law_gcd := (fun_mk (st := s__law_gcd) l18 c18 k18).binds (ps := ["a", "b"]) (fun _ _ _ _ _ _ us hl => match us, hl with | [_, _], _ => rfl), g__law_gcd := PySem.W.mg_of X G a18, F__law_frac := fun_mk (st := s__law_frac) l19 c19 k19, b__law_frac := (fun_mk (st := s__law_frac) l19 c19 k19).binds (ps := ["a", "b"]) (fun _ _ _ _ _ _ us hl => match us, hl with | [_, _], _ => rfl), g__law_frac := PySem.W.mg_of X G a19, F__law_add := fun_mk (st := s__law_add) l20 c20 k20, b__law_add := (fun_mk (st := s__law_add) l20 c20 k20).binds (ps := ["x", "y"]) (fun _ _ _ _ _ _ us hl => match us, hl with | [_, _], _ => rfl), g__law_add := PySem.W.mg_of X G a20, F__law_mul := fun_mk (st := s__law_mul) l21 c21 k21, b__law_mul := (fun_mk (st := s__law_mul) l21 c21 k21).binds (ps := ["x", "y"]) (fun _ _ _ _ _ _ us hl => match us, hl with | [_, _], _ => rfl), g__law_mul := PySem.W.mg_of X G a21, F__law_power := fun_mk (st := s__law_power) l22 c22 k22, b__law_power := (fun_mk (st := s__law_power) l22 c22 k22).binds (ps := ["x", "k"]) (fun _ _ _ _ _ _ us hl => match us, hl with | [_, _], _ => rfl), g__law_power := PySem.W.mg_of X G a22, F__law_same := fun_mk (st := s__law_same) l23 c23 k23, b__law_same := (fun_mk (st := s__law_same) l23 c23 k23).binds (ps := ["x", "due"]) (fun _ _ _ _ _ _ us hl => match us, hl with | [_, _], _ => rfl), g__law_same := PySem.W.mg_of X G a23, F__law_small := fun_mk (st := s__law_small) l24 c24 k24, b__law_small := (fun_mk (st := s__law_small) l24 c24 k24).binds (ps := ["draw"]) (fun _ _ _ _ _ _ us hl => match us, hl with | [_], _ => rfl), g__law_small := PySem.W.mg_of X G a24, F__law_tidy := fun_mk (st := s__law_tidy) l25 c25 k25, b__law_tidy := (fun_mk (st := s__law_tidy) l25 c25 k25).binds (ps := ["sums"]) (fun _ _ _ _ _ _ us hl => match us, hl with | [_], _ => rfl), g__law_tidy := PySem.W.mg_of X G a25, F__law_put := fun_mk (st := s__law_put) l26 c26 k26, b__law_put := (fun_mk (st := s__law_put) l26 c26 k26).binds (ps := ["sums", "e", "x"]) (fun _ _ _ _ _ _ us hl => match us, hl with | [_, _, _], _ => rfl), g__law_put := PySem.W.mg_of X G a26, F__law_padd := fun_mk (st := s__law_padd) l27 c27 k27, b__law_padd := (fun_mk (st := s__law_padd) l27 c27 k27).binds (ps := ["p", "q"]) (fun _ _ _ _ _ _ us hl => match us, hl with | [_, _], _ => rfl), g__law_padd := PySem.W.mg_of X G a27, F__law_pmul := fun_mk (st := s__law_pmul) l28 c28 k28, b__law_pmul := (fun_mk (st := s__law_pmul) l28 c28 k28).binds (ps := ["p", "q"]) (fun _ _ _ _ _ _ us hl => match us, hl with | [_, _], _ => rfl), g__law_pmul := PySem.W.mg_of X G a28, F__law_const := fun_mk (st := s__law_const) l29 c29 k29, b__law_const := (fun_mk (st := s__law_const) l29 c29 k29).binds (ps := ["n", "x"]) (fun _ _ _ _ _ _ us hl => match us, hl with | [_, _], _ => rfl), g__law_const := PySem.W.mg_of X G a29, F__law_var := fun_mk (st := s__law_var) l30 c30 k30, b__law_var := (fun_mk (st := s__law_var) l30 c30 k30).binds (ps := ["n", "k"]) (fun _ _ _ _ _ _ us hl => match us, hl with | [_, _], _ => rfl), g__law_var := PySem.W.mg_of X G a30, F__law_ppow := fun_mk (st := s__law_ppow) l31 c31 k31, b__law_ppow := (fun_mk (st := s__law_ppow) l31 c31 k31).binds (ps := ["n", "p", "k"]) (fun _ _ _ _ _ _ us hl => match us, hl with | [_, _, _], _ => rfl), g__law_ppow := PySem.W.mg_of X G a31, F__law_moved := fun_mk (st := s__law_moved) l32 c32 k32, b__law_moved := (fun_mk (st := s__law_moved) l32 c32 k32).binds (ps := ["n", "p", "point"]) (fun _ _ _ _ _ _ us hl => match us, hl with | [_, _, _], _ => rfl), g__law_moved := PySem.W.mg_of X G a32, F__law_fixed := fun_mk (st := s__law_fixed) l33 c33 k33, b__law_fixed := (fun_mk (st := s__law_fixed) l33 c33 k33).binds (ps := ["p", "k", "x"]) (fun _ _ _ _ _ _ us hl => match us, hl with | [_, _, _], _ => rfl), g__law_fixed := PySem.W.mg_of X G a33, F__law_poly := fun_mk (st := s__law_poly) l34 c34 k34, b__law_poly := (fun_mk (st := s__law_poly) l34 c34 k34).binds (ps := ["n", "draws", "at", "most", "high"]) (fun _ _ _ _ _ _ us hl => match us, hl with | [_, _, _, _, _], _ => rfl), g__law_poly := PySem.W.mg_of X G a34, F__law_point := fun_mk (st := s__law_point) l35 c35 k35, b__law_point := (fun_mk (st := s__law_point) l35 c35 k35).binds (ps := ["n", "draws", "at"]) (fun _ _ _ _ _ _ us hl => match us, hl with | [_, _, _], _ => rfl), g__law_point := PySem.W.mg_of X G a35, F_law := fun_mk (st := s_law) l36 c36 k36, b_law := (fun_mk (st := s_law) l36 c36 k36).binds (ps := ["script"]) (fun _ _ _ _ _ _ us hl => match us, hl with | [_], _ => rfl), g_law := PySem.W.mg_of X G a36, z_abs := PySem.W.mg_none_of X G z_abs, z_bool := PySem.W.mg_none_of X G z_bool, z_int := PySem.W.mg_none_of X G z_int, z_isinstance := PySem.W.mg_none_of X G z_isinstance, z_len := PySem.W.mg_none_of X G z_len, z_list := PySem.W.mg_none_of X G z_list, z_range := PySem.W.mg_none_of X G z_range, z_reversed := PySem.W.mg_none_of X G z_reversed, z_sorted := PySem.W.mg_none_of X G z_sorted, z_str := PySem.W.mg_none_of X G z_str, z_tuple := PySem.W.mg_none_of X G z_tuple, z_gcd := PySem.W.mg_of X G z_gcd, z_lcm := PySem.W.mg_of X G z_lcm, g_BadNumber := PySem.W.mg_of X G g_BadNumber, x_BadNumber := x_BadNumber, k_BadNumber := k_BadNumber, s_BadNumber := s_BadNumber, t_BadNumber := t_BadNumber }
  exact ⟨_, fun s v => .of_eq rfl, fun base _ _ => (ok_law T).imp (law_sp law_true)⟩
end Gn
open PySem PySem.W PyProof.Rows
set_option maxHeartbeats 0 in
theorem PySem.Challenge.cw_rootfast_k15_moved_and_fixed_polynomials_holds : PySem.Challenge.rw_rootfast_k15_moved_and_fixed_polynomials.Holds := by
  w_on; o_law; k_head; (case hw => w_witness2)
  k_fill
  refine L2.walk_of (l := PySem.Challenge.rw_rootfast_k15_moved_and_fixed_polynomials) (n := 63) (k := 44) (x := "script") (CX := fun w => L2.CX PySem.Challenge.rw_rootfast_k15_moved_and_fixed_polynomials.prog w) (sp := fun w => Gn.spLaw _) rfl (by decide) rfl ⟨rfl, by decide, by decide⟩ (fun w h Y => PySem.W.kIn_of Y) ?F (fun _ _ a ns hl _ hS => ⟨a, ns, rfl, hS, hl, fun _ => rfl⟩) (fun _ _ _ _ _ h => Gn.cx_none h)
  case F =>
    intro w mg fa h KX G hmg
    refine' Gn.all_mk KX G hmg ?a0 ?l0 ?c0 ?k0 ?a1 ?l1 ?c1 ?k1 ?a2 ?l2 ?c2 ?k2 ?a3 ?l3 ?c3 ?k3 ?a4 ?l4 ?c4 ?k4 ?a5 ?l5 ?c5 ?k5 ?a6 ?l6 ?c6 ?k6 ?a7 ?l7 ?c7 ?k7 ?a8 ?l8 ?c8 ?k8 ?a9 ?l9 ?c9 ?k9 ?a10 ?l10 ?c10 ?k10 ?a11 ?l11 ?c11 ?k11 ?a12 ?l12 ?c12 ?k12 ?a13 ?l13 ?c13 ?k13 ?a14 ?l14 ?c14 ?k14 ?a15 ?l15 ?c15 ?k15 ?a16 ?l16 ?c16 ?k16 ?a17 ?l17 ?c17 ?k17 ?a18 ?l18 ?c18 ?k18 ?a19 ?l19 ?c19 ?k19 ?a20 ?l20 ?c20 ?k20 ?a21 ?l21 ?c21 ?k21 ?a22 ?l22 ?c22 ?k22 ?a23 ?l23 ?c23 ?k23 ?a24 ?l24 ?c24 ?k24 ?a25 ?l25 ?c25 ?k25 ?a26 ?l26 ?c26 ?k26 ?a27 ?l27 ?c27 ?k27 ?a28 ?l28 ?c28 ?k28 ?a29 ?l29 ?c29 ?k29 ?a30 ?l30 ?c30 ?k30 ?a31 ?l31 ?c31 ?k31 ?a32 ?l32 ?c32 ?k32 ?a33 ?l33 ?c33 ?k33 ?a34 ?l34 ?c34 ?k34 ?a35 ?l35 ?c35 ?k35 ?a36 ?l36 ?c36 ?k36 ?z_abs ?z_bool ?z_int ?z_isinstance ?z_len ?z_list ?z_range ?z_reversed ?z_sorted ?z_str ?z_tuple ?z_gcd ?z_lcm ?g_BadNumber ?x_BadNumber ?k_BadNumber ?s_BadNumber ?t_BadNumber
    (case a0 => k_is); (case l0 => k_is); (case c0 => k_is); (case k0 => k_is); (case a1 => k_is); (case l1 => k_is); (case c1 => k_is); (case k1 => k_is); (case a2 => k_is); (case l2 => k_is); (case c2 => k_is); (case k2 => k_is); (case a3 => k_is); (case l3 => k_is); (case c3 => k_is); (case k3 => k_is); (case a4 => k_is); (case l4 => k_is); (case c4 => k_is); (case k4 => k_is); (case a5 => k_is); (case l5 => k_is); (case c5 => k_is); (case k5 => k_is); (case a6 => k_is); (case l6 => k_is); (case c6 => k_is); (case k6 => k_is); (case a7 => k_is); (case l7 => k_is); (case c7 => k_is); (case k7 => k_is); (case a8 => k_is); (case l8 => k_is); (case c8 => k_is); (case k8 => k_is); (case a9 => k_is); (case l9 => k_is); (case c9 => k_is); (case k9 => k_is); (case a10 => k_is); (case l10 => k_is); (case c10 => k_is); (case k10 => k_is); (case a11 => k_is); (case l11 => k_is); (case c11 => k_is); (case k11 => k_is); (case a12 => k_is); (case l12 => k_is); (case c12 => k_is); (case k12 => k_is); (case a13 => k_is); (case l13 => k_is); (case c13 => k_is); (case k13 => k_is); (case a14 => k_is); (case l14 => k_is); (case c14 => k_is); (case k14 => k_is); (case a15 => k_is); (case l15 => k_is); (case c15 => k_is); (case k15 => k_is); (case a16 => k_is); (case l16 => k_is); (case c16 => k_is); (case k16 => k_is); (case a17 => k_is); (case l17 => k_is); (case c17 => k_is); (case k17 => k_is); (case a18 => k_is); (case l18 => k_is); (case c18 => k_is); (case k18 => k_is); (case a19 => k_is); (case l19 => k_is); (case c19 => k_is); (case k19 => k_is); (case a20 => k_is); (case l20 => k_is); (case c20 => k_is); (case k20 => k_is); (case a21 => k_is); (case l21 => k_is); (case c21 => k_is); (case k21 => k_is); (case a22 => k_is); (case l22 => k_is); (case c22 => k_is); (case k22 => k_is); (case a23 => k_is); (case l23 => k_is); (case c23 => k_is); (case k23 => k_is); (case a24 => k_is); (case l24 => k_is); (case c24 => k_is); (case k24 => k_is); (case a25 => k_is); (case l25 => k_is); (case c25 => k_is); (case k25 => k_is); (case a26 => k_is); (case l26 => k_is); (case c26 => k_is); (case k26 => k_is); (case a27 => k_is); (case l27 => k_is); (case c27 => k_is); (case k27 => k_is); (case a28 => k_is); (case l28 => k_is); (case c28 => k_is); (case k28 => k_is); (case a29 => k_is); (case l29 => k_is); (case c29 => k_is); (case k29 => k_is); (case a30 => k_is); (case l30 => k_is); (case c30 => k_is); (case k30 => k_is); (case a31 => k_is); (case l31 => k_is); (case c31 => k_is); (case k31 => k_is); (case a32 => k_is); (case l32 => k_is); (case c32 => k_is); (case k32 => k_is); (case a33 => k_is); (case l33 => k_is); (case c33 => k_is); (case k33 => k_is); (case a34 => k_is); (case l34 => k_is); (case c34 => k_is); (case k34 => k_is); (case a35 => k_is); (case l35 => k_is); (case c35 => k_is); (case k35 => k_is); (case a36 => k_is); (case l36 => k_is); (case c36 => k_is); (case k36 => k_is); (case z_abs => k_is); (case z_bool => k_is); (case z_int => k_is); (case z_isinstance => k_is); (case z_len => k_is); (case z_list => k_is); (case z_range => k_is); (case z_reversed => k_is); (case z_sorted => k_is); (case z_str => k_is); (case z_tuple => k_is); (case z_gcd => k_is); (case z_lcm => k_is); (case g_BadNumber => k_is); (case x_BadNumber => k_exc); (case k_BadNumber => k_is); (case s_BadNumber => k_is); (case t_BadNumber => k_is)
