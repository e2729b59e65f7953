import PyProof.Rows.All
import Wide.All
import OpenK.AllK
import Wide.FinOn
import PySem.Challenge.RW_rootfast_k03_sums_and_products
import HandS.Base
import HandS.Call
import HandS.List
import HandS.Comp
import HandS.Exc
import HandS.ExcOwn
import HandS.Words
import HandS.WideBits
import HandS.Wide
import HandS.IsInst
import HandS.Gcd
import HandS.TupAny
import HandS.Text
import HandS.More
import HandS.CallSlots
import HandS.WordsExc
import PyProof.TypeEq
import HandS.Iter
import HandS.RevRange
import HandS.Style
import PyProof.StrBlock2
import HandS.TryOnly
set_option Elab.async false
set_option linter.all false
set_option maxRecDepth 100000
set_option maxHeartbeats 1000000
namespace Rf
open PySem PySem.Spec PyProof.Rows L2

/-! ### values without a heap -/
/-- a value: immediate, a tuple of values, an object of the store (by its number), a list that never changes -/
inductive D where
  | non | bl (b : Bool) | int (i : Int) | str (x : Str) | ty (n : String) | tup (xs : List D) | ref (i : Nat) | fro (xs : List D)
inductive O where
  | lst (xs : List D)
  | dct (kvs : List (List Key × D))
abbrev Sto := List O
abbrev Env := List (Option D)
inductive R (α : Type) where
  | val (a : α) (S : Sto)
  | exc (c : Str) (S : Sto)

/-- a list of the written part, or one that stands apart from the store -/
def Fro (K : PySem.W.Frag) (φ : Nat → Addr) (n : Nat) (H : Hp) (a : Addr) (xs : List V) : Prop :=
  (L2.Rd H a (.lst xs) ∧ ∀ i, i < n → φ i ≠ a) ∨
    ∃ (o : Obj) (its : Array Value) (n : Nat), K.lookup a = some o ∧ o.cls = .type "list" ∧ o.dict = none ∧ o.data = .seq its n ∧ its.size ≤ sizeLine ∧ Vals xs its.toList
theorem Fro.sq {K : PySem.W.Frag} {φ : Nat → Addr} {n : Nat} {H : Hp} {a : Addr} {xs : List V} (h : Fro K φ n H a xs) : SqL K H a xs := h.elim (fun h => .inl h.1) .inr

mutual
inductive Rel (K : PySem.W.Frag) (φ : Nat → Addr) (n : Nat) (H : Hp) : V → D → Prop
  | non : Rel K φ n H .non .non
  | bl (b : Bool) : Rel K φ n H (.bl b) (.bl b)
  | int (i : Int) : Rel K φ n H (.int i) (.int i)
  | str (x : Str) : Rel K φ n H (.str x) (.str x)
  | ty (x : String) : Rel K φ n H (.ty x) (.ty x)
  | tup {a : Addr} {xs : List V} {ds : List D} : SqT K H a xs → Rels K φ n H xs ds → Rel K φ n H (.ref a) (.tup ds)
  | fro {a : Addr} {xs : List V} {ds : List D} : Fro K φ n H a xs → Rels K φ n H xs ds → Rel K φ n H (.ref a) (.fro ds)
  | ref {i : Nat} : i < n → Rel K φ n H (.ref (φ i)) (.ref i)
inductive Rels (K : PySem.W.Frag) (φ : Nat → Addr) (n : Nat) (H : Hp) : List V → List D → Prop
  | nil : Rels K φ n H [] []
  | cons {v : V} {vs : List V} {d : D} {ds : List D} : Rel K φ n H v d → Rels K φ n H vs ds → Rels K φ n H (v :: vs) (d :: ds)
end

/-- an object of the store -/
inductive RelO (K : PySem.W.Frag) (φ : Nat → Addr) (n : Nat) (H : Hp) : HO → O → Prop
  | lst {xs : List V} {ds : List D} : Rels K φ n H xs ds → RelO K φ n H (.lst xs) (.lst ds)
  | dct {ks : List (List Key × V)} {kvs : List (List Key × D)} : ks.map (·.1) = kvs.map (·.1) → Rels K φ n H (ks.map (·.2)) (kvs.map (·.2)) → RelO K φ n H (.dT ks) (.dct kvs)
structure Ok (K : PySem.W.Frag) (φ : Nat → Addr) (S : Sto) (H : Hp) : Prop where
  obj : ∀ i o, S[i]? = some o → ∃ ho, H (φ i) = some ho ∧ RelO K φ S.length H ho o
  inj : ∀ i j, i < S.length → j < S.length → φ i = φ j → i = j
/-- the store grows, its objects may change; all else that is tracked stands -/
structure Ext (φ : Nat → Addr) (n : Nat) (H : Hp) (φ' : Nat → Addr) (n' : Nat) (H' : Hp) : Prop where
  le : n ≤ n'
  same : ∀ i, i < n → φ' i = φ i
  keep : ∀ a o, H a = some o → (∀ i, i < n → φ i ≠ a) → H' a = some o
  new : ∀ i, n ≤ i → i < n' → H (φ' i) = none
  dom : ∀ a, H a ≠ none → H' a ≠ none
theorem Ext.refl (φ : Nat → Addr) (n : Nat) (H : Hp) : Ext φ n H φ n H := ⟨Nat.le_refl _, fun _ _ => rfl, fun _ _ h _ => h, fun i h1 h2 => absurd h2 (by omega), fun _ h => h⟩
theorem Ext.trans {φ φ1 φ2 : Nat → Addr} {n n1 n2 : Nat} {H H1 H2 : Hp} (a : Ext φ n H φ1 n1 H1) (b : Ext φ1 n1 H1 φ2 n2 H2) : Ext φ n H φ2 n2 H2 where
  le := Nat.le_trans a.le b.le
  same := fun i h => (b.same i (Nat.lt_of_lt_of_le h a.le)).trans (a.same i h)
  keep := fun x o h hn => b.keep x o (a.keep x o h hn) fun i hi z => by
    by_cases hlt : i < n
    · exact hn i hlt ((a.same i hlt).symm.trans z)
    · have := a.new i (by omega) hi
      rw [z, h] at this
      cases this
  new := fun i h1 h2 => by
    by_cases hlt : i < n1
    · rw [b.same i hlt]
      exact a.new i h1 hlt
    · have q := b.new i (by omega) h2
      cases e : H (φ2 i) with
      | none => rfl
      | some o => exact absurd q (a.dom _ (by rw [e]; simp))
  dom := fun x h => b.dom x (a.dom x h)

section
variable {K : PySem.W.Frag} {φ φ' : Nat → Addr} {S : Sto} {n' : Nat} {H H' : Hp}
theorem Ok.notup (k : Ok K φ S H) {a : Addr} {o : HO} (h : H a = some o) (ho : ∀ xs, o ≠ .lst xs) (hd : ∀ ks, o ≠ .dT ks) : ∀ i, i < S.length → φ i ≠ a := fun i hi z => by
  obtain ⟨ho', e, r⟩ := k.obj i S[i] (List.getElem?_eq_getElem hi)
  rw [z, h] at e
  cases e
  generalize S[i] = x at r
  cases r with
  | lst _ => exact ho _ rfl
  | dct _ _ => exact hd _ rfl
theorem Ok.rdT (k : Ok K φ S H) (e : Ext φ S.length H φ' n' H') {a : Addr} {xs : List V} (h : SqT K H a xs) : SqT K H' a xs := by
  rcases h with (h | ⟨o, h⟩) | h
  · exact .inl (.inl (e.keep _ _ h (k.notup h (fun _ z => nomatch z) fun _ z => nomatch z)))
  · exact .inl (.inr ⟨o, e.keep _ _ h (k.notup h (fun _ z => nomatch z) fun _ z => nomatch z)⟩)
  · exact .inr h
theorem Ok.rdF (k : Ok K φ S H) (e : Ext φ S.length H φ' n' H') {a : Addr} {xs : List V} (h : Fro K φ S.length H a xs) : Fro K φ' n' H' a xs := by
  rcases h with ⟨h, hn⟩ | h
  · have hs : H a ≠ none := by
      rcases h with h | ⟨o, h⟩ <;> rw [h] <;> simp
    refine .inl ⟨?_, fun i hi z => ?_⟩
    · rcases h with h | ⟨o, h⟩
      · exact .inl (e.keep _ _ h hn)
      · exact .inr ⟨o, e.keep _ _ h hn⟩
    · by_cases hlt : i < S.length
      · exact hn i hlt ((e.same i hlt).symm.trans z)
      · have q := e.new i (by omega) hi
        rw [z] at q
        exact hs q
  · exact .inr h
mutual
theorem Rel.mono (k : Ok K φ S H) (e : Ext φ S.length H φ' n' H') : ∀ {v : V} {d : D}, Rel K φ S.length H v d → Rel K φ' n' H' v d
  | _, _, .non => .non
  | _, _, .bl b => .bl b
  | _, _, .int i => .int i
  | _, _, .str x => .str x
  | _, _, .ty x => .ty x
  | _, _, .tup h r => .tup (k.rdT e h) (Rels.mono k e r)
  | _, _, .fro h r => .fro (k.rdF e h) (Rels.mono k e r)
  | _, _, .ref (i := i) h => by
    rw [← e.same i h]
    exact .ref (Nat.lt_of_lt_of_le h e.le)
theorem Rels.mono (k : Ok K φ S H) (e : Ext φ S.length H φ' n' H') : ∀ {v : List V} {d : List D}, Rels K φ S.length H v d → Rels K φ' n' H' v d
  | _, _, .nil => .nil
  | _, _, .cons r t => .cons (Rel.mono k e r) (Rels.mono k e t)
end
end

/-! ### relations of the slots -/
structure RelE (K : PySem.W.Frag) (φ : Nat → Addr) (n : Nat) (H : Hp) (ρ : Env) (σ : L2.St) : Prop where
  len : ρ.length = σ.length
  at_ : ∀ (i : Nat) (d : D), ρ[i]? = some (some d) → ∃ v, σ[i]? = some (some v) ∧ Rel K φ n H v d
theorem RelE.mono {K : PySem.W.Frag} {φ φ' : Nat → Addr} {S : Sto} {n' : Nat} {H H' : Hp} {ρ : Env} {σ : L2.St} (k : Ok K φ S H) (e : Ext φ S.length H φ' n' H') (r : RelE K φ S.length H ρ σ) : RelE K φ' n' H' ρ σ :=
  ⟨r.len, fun i d h => by obtain ⟨v, q, z⟩ := r.at_ i d h; exact ⟨v, q, z.mono k e⟩⟩
theorem RelE.set {K : PySem.W.Frag} {φ : Nat → Addr} {n : Nat} {H : Hp} {ρ : Env} {σ : L2.St} (r : RelE K φ n H ρ σ) (i : Nat) {v : V} {d : D} (h : Rel K φ n H v d) : RelE K φ n H (ρ.set i (some d)) (σ.set i (some v)) := by
  refine ⟨by simp [r.len], fun j e hj => ?_⟩
  by_cases c : i = j
  · subst c
    by_cases hl : i < ρ.length
    · rw [List.getElem?_set_self hl] at hj
      cases hj
      exact ⟨v, List.getElem?_set_self (by rw [← r.len]; exact hl), h⟩
    · rw [List.getElem?_eq_none (by simp; omega)] at hj
      cases hj
  · rw [List.getElem?_set_ne c] at hj
    obtain ⟨w, q, z⟩ := r.at_ j e hj
    exact ⟨w, by rw [List.getElem?_set_ne c]; exact q, z⟩
theorem RelE.unset {K : PySem.W.Frag} {φ : Nat → Addr} {n : Nat} {H : Hp} {ρ : Env} {σ : L2.St} (r : RelE K φ n H ρ σ) (i : Nat) {v : Option V} : RelE K φ n H (ρ.set i none) (σ.set i v) := by
  refine ⟨by simp [r.len], fun j e hj => ?_⟩
  by_cases c : i = j
  · subst c
    by_cases hl : i < ρ.length
    · rw [List.getElem?_set_self hl] at hj
      cases hj
    · rw [List.getElem?_eq_none (by simp; omega)] at hj
      cases hj
  · rw [List.getElem?_set_ne c] at hj
    obtain ⟨w, q, z⟩ := r.at_ j e hj
    exact ⟨w, by rw [List.getElem?_set_ne c]; exact q, z⟩

/-! ### readings -/
abbrev RelT (β α : Type) := (Nat → Addr) → Nat → Hp → β → α → Prop
class Mono (K : PySem.W.Frag) {β α : Type} (rel : RelT β α) : Prop where
  mono : ∀ {φ : Nat → Addr} {S : Sto} {H : Hp} {φ' : Nat → Addr} {n' : Nat} {H' : Hp} {b : β} {a : α}, Ok K φ S H → Ext φ S.length H φ' n' H' → rel φ S.length H b a → rel φ' n' H' b a
instance {K : PySem.W.Frag} : Mono K (Rel K) := ⟨fun k e r => r.mono k e⟩
instance {K : PySem.W.Frag} : Mono K (Rels K) := ⟨fun k e r => r.mono k e⟩
def RelB {α : Type} : RelT α α := fun _ _ _ b a => b = a
instance {K : PySem.W.Frag} {α : Type} : Mono K (RelB (α := α)) := ⟨fun _ _ r => r⟩

variable (K : PySem.W.Frag) (ec : Str → Value)
section
variable {α β γ δ : Type}
def KV (rel : RelT β α) (W : WX) (φ : Nat → Addr) (n : Nat) (σ : L2.St) (H : Hp) (Q : β → Hp → Prop) : R α → Prop
  | .val a S' => ∀ φ' H' b, Ext φ n H φ' S'.length H' → Ok K φ' S' H' → rel φ' S'.length H' b a → Q b H'
  | .exc c S' => ∀ φ' H', Ext φ n H φ' S'.length H' → Ok K φ' S' H' → W (ec c) none σ H'
variable {K ec}
theorem KV.ext {rel : RelT β α} {W : WX} {φ φ1 : Nat → Addr} {n n1 : Nat} {σ : L2.St} {H H1 : Hp} {Q : β → Hp → Prop} {r : R α} (e : Ext φ n H φ1 n1 H1) (h : KV K ec rel W φ n σ H Q r) : KV K ec rel W φ1 n1 σ H1 Q r := by
  cases r with
  | val a S' => exact fun φ' H' b e' => h φ' H' b (e.trans e')
  | exc c S' => exact fun φ' H' e' => h φ' H' (e.trans e')
theorem KV.imp {rel : RelT β α} {W : WX} {φ : Nat → Addr} {n : Nat} {σ : L2.St} {H : Hp} {Q Q' : β → Hp → Prop} {r : R α} (hq : ∀ b H, Q b H → Q' b H) (h : KV K ec rel W φ n σ H Q r) : KV K ec rel W φ n σ H Q' r := by
  cases r with
  | val a S' => exact fun φ' H' b e o r => hq _ _ (h φ' H' b e o r)
  | exc c S' => exact h
abbrev M (α : Type) := Env → Sto → Option (R α)
def mB (m : M γ) (k : γ → M α) : M α := fun ρ S => match m ρ S with
  | none => none
  | some (.exc c S1) => some (.exc c S1)
  | some (.val a S1) => k a ρ S1
def mRet (a : α) : M α := fun _ S => some (.val a S)
variable (K ec)
/-- a reading by m -/
def rd (rel : RelT β α) (W : WX) (m : M α) : L2.St → Hp → (β → Hp → Prop) → Prop := fun σ H Q =>
  ∃ (φ : Nat → Addr) (S : Sto) (ρ : Env), Ok K φ S H ∧ RelE K φ S.length H ρ σ ∧ ∃ r, m ρ S = some r ∧ KV K ec rel W φ S.length σ H Q r
variable {K ec}
/-- the state between two evaluations: C is what is carried -/
structure Cf (K : PySem.W.Frag) (ec : Str → Value) (rel : RelT β α) (W : WX) (C : (Nat → Addr) → Nat → Hp → Prop) (φ : Nat → Addr) (S : Sto) (ρ : Env) (σ : L2.St) (H : Hp) (Q : β → Hp → Prop) (k : Sto → Option (R α)) : Prop where
  ok : Ok K φ S H
  env : RelE K φ S.length H ρ σ
  car : C φ S.length H
  run : ∃ r, k S = some r ∧ KV K ec rel W φ S.length σ H Q r
def MonoC (K : PySem.W.Frag) (C : (Nat → Addr) → Nat → Hp → Prop) : Prop := ∀ (φ : Nat → Addr) (S : Sto) (H : Hp) (φ' : Nat → Addr) (n' : Nat) (H' : Hp), Ok K φ S H → Ext φ S.length H φ' n' H' → C φ S.length H → C φ' n' H'
theorem monoC_true : MonoC K fun _ _ _ => True := fun _ _ _ _ _ _ _ _ _ => trivial
theorem monoC_rel {rel : RelT β α} [Mono K rel] {b : β} {a : α} : MonoC K fun φ n H => rel φ n H b a := fun _ _ _ _ _ _ k e r => Mono.mono k e r
theorem monoC_and {C C' : (Nat → Addr) → Nat → Hp → Prop} (h : MonoC K C) (h' : MonoC K C') : MonoC K fun φ n H => C φ n H ∧ C' φ n H := fun φ S H φ' n' H' k e r => ⟨h _ _ _ _ _ _ k e r.1, h' _ _ _ _ _ _ k e r.2⟩
/-- one evaluation ahead -/
theorem Cf.bind {rel : RelT β α} {rel1 : RelT δ γ} {W : WX} {C : (Nat → Addr) → Nat → Hp → Prop} (hC : MonoC K C) {φ : Nat → Addr} {S : Sto} {ρ : Env} {σ : L2.St} {H : Hp} {Q : β → Hp → Prop} {m : M γ} {k : γ → M α} (c : Cf K ec rel W C φ S ρ σ H Q (mB m k ρ)) :
    rd K ec rel1 W m σ H fun x H1 => ∃ (φ1 : Nat → Addr) (S1 : Sto) (a : γ), rel1 φ1 S1.length H1 x a ∧ Cf K ec rel W C φ1 S1 ρ σ H1 Q (k a ρ) := by
  obtain ⟨r, e, q⟩ := c.run
  unfold mB at e
  split at e
  · cases e
  · rename_i c1 S1 e1
    cases e
    exact ⟨φ, S, ρ, c.ok, c.env, _, e1, q⟩
  · rename_i a S1 e1
    refine ⟨φ, S, ρ, c.ok, c.env, _, e1, fun φ' H' b ex ok r1 => ⟨φ', S1, a, r1, ok, c.env.mono c.ok ex, hC _ _ _ _ _ _ c.ok ex c.car, r, e, q.ext ex⟩⟩
theorem Cf.start {rel : RelT β α} {W : WX} {σ : L2.St} {H : Hp} {Q : β → Hp → Prop} {m : M α} (h : rd K ec rel W m σ H Q) : ∃ (φ : Nat → Addr) (S : Sto) (ρ : Env), Cf K ec rel W (fun _ _ _ => True) φ S ρ σ H Q (m ρ) := by
  obtain ⟨φ, S, ρ, ok, env, r, e, q⟩ := h
  exact ⟨φ, S, ρ, ok, env, trivial, r, e, q⟩
theorem Cf.carry {rel : RelT β α} {W : WX} {C C' : (Nat → Addr) → Nat → Hp → Prop} {φ : Nat → Addr} {S : Sto} {ρ : Env} {σ : L2.St} {H : Hp} {Q : β → Hp → Prop} {k : Sto → Option (R α)} (c : Cf K ec rel W C φ S ρ σ H Q k) (h : C' φ S.length H) : Cf K ec rel W C' φ S ρ σ H Q k := ⟨c.ok, c.env, h, c.run⟩
/-- the end of an evaluation -/
theorem Cf.done {rel : RelT β α} {W : WX} {C : (Nat → Addr) → Nat → Hp → Prop} {φ : Nat → Addr} {S S' : Sto} {ρ : Env} {σ : L2.St} {H : Hp} {Q : β → Hp → Prop} {k : Sto → Option (R α)} {a : α} {b : β} (c : Cf K ec rel W C φ S ρ σ H Q k)
    (hk : k S = some (.val a S')) {φ' : Nat → Addr} {H' : Hp} (ex : Ext φ S.length H φ' S'.length H') (ok : Ok K φ' S' H') (hr : rel φ' S'.length H' b a) : Q b H' := by
  obtain ⟨r, e, q⟩ := c.run
  rw [hk] at e
  cases e
  exact q φ' H' b ex ok hr
theorem Cf.ret {rel : RelT β α} {W : WX} {C : (Nat → Addr) → Nat → Hp → Prop} {φ : Nat → Addr} {S : Sto} {ρ : Env} {σ : L2.St} {H : Hp} {Q : β → Hp → Prop} {k : Sto → Option (R α)} {a : α} {b : β} (c : Cf K ec rel W C φ S ρ σ H Q k)
    (hk : k S = some (.val a S)) (hr : rel φ S.length H b a) : Q b H := c.done hk (Ext.refl _ _ _) c.ok hr
end

/-! a new object -/
section
variable {K : PySem.W.Frag} {φ : Nat → Addr} {S : Sto} {H : Hp}
theorem ext_imm {p : Addr} {ho : HO} (hp : H p = none) : Ext φ S.length H φ S.length (upd H p ho) := by
  refine ⟨Nat.le_refl _, fun _ _ => rfl, fun a o h _ => ?_, fun i h1 h2 => absurd h2 (by omega), fun a h => ?_⟩
  · rw [upd_ne (ne_of_none h hp)]; exact h
  · by_cases c : a = p
    · rw [c, upd_same]; simp
    · rw [upd_ne c]; exact h
theorem RelO.mono {φ' : Nat → Addr} {n' : Nat} {H' : Hp} (k : Ok K φ S H) (e : Ext φ S.length H φ' n' H') {ho : HO} {o : O} (r : RelO K φ S.length H ho o) : RelO K φ' n' H' ho o := by
  cases r with
  | lst r => exact .lst (r.mono k e)
  | dct h r => exact .dct h (r.mono k e)
/-- a tuple or the like is laid -/
theorem Ok.imm (k : Ok K φ S H) {p : Addr} {ho : HO} (hp : H p = none) : Ok K φ S (upd H p ho) := by
  have ex : Ext φ S.length H φ S.length (upd H p ho) := ext_imm hp
  refine ⟨fun i o h => ?_, k.inj⟩
  obtain ⟨h1, e, r⟩ := k.obj i o h
  exact ⟨h1, by rw [upd_ne (ne_of_none e hp)]; exact e, r.mono k ex⟩
/-- where the new object stands -/
def nxt (φ : Nat → Addr) (n : Nat) (p : Addr) : Nat → Addr := fun i => if i = n then p else φ i
theorem nxt_old {n i : Nat} {p : Addr} (h : i < n) : nxt φ n p i = φ i := by unfold nxt; rw [if_neg (by omega)]
theorem nxt_new {n : Nat} {p : Addr} : nxt φ n p n = p := by unfold nxt; rw [if_pos rfl]
theorem ext_new {p : Addr} {ho : HO} (hp : H p = none) : Ext φ S.length H (nxt φ S.length p) (S.length + 1) (upd H p ho) := by
  refine ⟨Nat.le_succ _, fun i h => nxt_old h, fun a o h _ => ?_, fun i h1 h2 => ?_, fun a h => ?_⟩
  · rw [upd_ne (ne_of_none h hp)]; exact h
  · obtain rfl : i = S.length := by omega
    rw [nxt_new]; exact hp
  · by_cases c : a = p
    · rw [c, upd_same]; simp
    · rw [upd_ne c]; exact h
theorem Ok.new (k : Ok K φ S H) {p : Addr} {ho : HO} {o : O} (hp : H p = none) (r : RelO K φ S.length H ho o) : Ok K (nxt φ S.length p) (S ++ [o]) (upd H p ho) := by
  have ex : Ext φ S.length H (nxt φ S.length p) (S.length + 1) (upd H p ho) := ext_new hp
  have hne : ∀ i, i < S.length → φ i ≠ p := fun i hi z => by
    obtain ⟨h1, e, _⟩ := k.obj i S[i] (List.getElem?_eq_getElem hi)
    rw [z, hp] at e
    cases e
  refine ⟨fun i o' h => ?_, fun i j hi hj z => ?_⟩
  · rw [List.length_append, List.length_singleton]
    by_cases hi : i < S.length
    · rw [List.getElem?_append_left hi] at h
      obtain ⟨h1, e, r1⟩ := k.obj i o' h
      exact ⟨h1, by rw [nxt_old hi, upd_ne (ne_of_none e hp)]; exact e, r1.mono k ex⟩
    · have hl : i < (S ++ [o]).length := by
        by_cases c : i < (S ++ [o]).length
        · exact c
        · rw [List.getElem?_eq_none (by omega)] at h; cases h
      rw [List.length_append, List.length_singleton] at hl
      obtain rfl : i = S.length := by omega
      rw [List.getElem?_append_right (Nat.le_refl _), Nat.sub_self] at h
      cases h
      exact ⟨ho, by rw [nxt_new]; exact upd_same, r.mono k ex⟩
  · rw [List.length_append, List.length_singleton] at hi hj
    by_cases h1 : i < S.length
    · by_cases h2 : j < S.length
      · rw [nxt_old h1, nxt_old h2] at z
        exact k.inj i j h1 h2 z
      · obtain rfl : j = S.length := by omega
        rw [nxt_old h1, nxt_new] at z
        exact absurd z (hne i h1)
    · obtain rfl : i = S.length := by omega
      by_cases h2 : j < S.length
      · rw [nxt_old h2, nxt_new] at z
        exact absurd z.symm (hne j h2)
      · omega
/-- an object of the store changes -/
theorem Ok.ne (k : Ok K φ S H) {i j : Nat} (hi : i < S.length) (hj : j < S.length) (h : i ≠ j) : φ i ≠ φ j := fun z => h (k.inj i j hi hj z)
theorem ext_put (k : Ok K φ S H) {i : Nat} {ho : HO} (hi : i < S.length) : Ext φ S.length H φ S.length (upd H (φ i) ho) := by
  refine ⟨Nat.le_refl _, fun _ _ => rfl, fun a o h hn => ?_, fun i h1 h2 => absurd h2 (by omega), fun a h => ?_⟩
  · rw [upd_ne (fun z => hn i hi z.symm)]; exact h
  · by_cases c : a = φ i
    · rw [c, upd_same]; simp
    · rw [upd_ne c]; exact h
theorem Ok.put (k : Ok K φ S H) {i : Nat} {ho : HO} {o : O} (hi : i < S.length) (r : RelO K φ S.length H ho o) : Ok K φ (S.set i o) (upd H (φ i) ho) := by
  have ex : Ext φ S.length H φ S.length (upd H (φ i) ho) := ext_put k hi
  refine ⟨fun j o' h => ?_, fun a b ha hb z => k.inj a b (by simpa using ha) (by simpa using hb) z⟩
  rw [List.length_set]
  by_cases c : i = j
  · subst c
    rw [List.getElem?_set_self hi] at h
    cases h
    exact ⟨ho, upd_same, r.mono k ex⟩
  · rw [List.getElem?_set_ne c] at h
    have hj : j < S.length := by
      by_cases q : j < S.length
      · exact q
      · rw [List.getElem?_eq_none (by omega)] at h; cases h
    obtain ⟨h1, e, r1⟩ := k.obj j o' h
    exact ⟨h1, by rw [upd_ne (k.ne hj hi (Ne.symm c))]; exact e, r1.mono k ex⟩
end
end Rf
namespace Rf
open PySem PySem.Spec PyProof.Rows L2

variable {X : Cx} {ec : Str → Value} {W : WX}
def XE (X : Cx) (ec : Str → Value) (W : WX) (e : Expr) (m : M D) : Prop := PE X e (rd X.K ec (Rel X.K) W m)
def XT (X : Cx) (ec : Str → Value) (W : WX) (e : Expr) (m : M Bool) : Prop := PT X e (rd X.K ec RelB W m)
def XA (X : Cx) (ec : Str → Value) (W : WX) (es : List Expr) (m : M (List D)) : Prop := PA X es (rd X.K ec (Rels X.K) W m)

theorem imE {e : Expr} {t t' : TE} (h : PE X e t) (i : ∀ σ H Q, t' σ H Q → t σ H Q) : PE X e t' := ⟨fun pins s σ H Q I q => h.run pins s σ H Q I (i σ H Q q)⟩
theorem imT {e : Expr} {t t' : TT} (h : PT X e t) (i : ∀ σ H Q, t' σ H Q → t σ H Q) : PT X e t' := ⟨fun pins s σ H Q I q => h.run pins s σ H Q I (i σ H Q q)⟩
theorem imA {e : List Expr} {t t' : TA} (h : PA X e t) (i : ∀ σ H Q, t' σ H Q → t σ H Q) : PA X e t' := ⟨fun pos pins s σ H Q I q => h.run pos pins s σ H Q I (i σ H Q q)⟩
theorem orE {e : Expr} {t t' : TE} (h : PE X e t) (h' : PE X e t') : PE X e (fun σ H Q => t σ H Q ∨ t' σ H Q) := ⟨fun pins s σ H Q I q => q.elim (h.run pins s σ H Q I) (h'.run pins s σ H Q I)⟩
theorem rd_imp {K : PySem.W.Frag} {α β : Type} {rel : RelT β α} {m : M α} {σ : L2.St} {H : Hp} {Q Q' : β → Hp → Prop} (h : rd K ec rel W m σ H Q) (hq : ∀ b H, Q b H → Q' b H) : rd K ec rel W m σ H Q' := by
  obtain ⟨φ, S, ρ, ok, env, r, e, q⟩ := h
  exact ⟨φ, S, ρ, ok, env, r, e, q.imp hq⟩

/-! ### names, constants -/
def mVar (i : Nat) : M D := fun ρ S => match ρ[i]? with
  | some (some d) => some (.val d S)
  | _ => none
theorem x_var (i : Nat) {x : Str} {pos : Pos} (hN : X.N[i]? = some x := by rfl) (hv : Vis X.env.scope x := by first | exact Or.inl rfl | exact Or.inr (Or.inl rfl) | exact Or.inr (Or.inr rfl)) (hd : (x == ("__debug__" : Str)) = false := by decide)
    (hcd : (x == ("__classdict__" : Str)) = false := by decide) : XE X ec W (.Name x pos) (mVar i) := imE (pe_var hN hv hd hcd) fun σ H Q h => by
  obtain ⟨φ, S, ρ, ok, env, r, e, q⟩ := h
  unfold mVar at e
  split at e
  · rename_i d hd
    cases e
    obtain ⟨v, hv, rv⟩ := env.at_ i d hd
    exact ⟨v, hv, q φ H v (Ext.refl _ _ _) ok rv⟩
  · cases e
theorem rd_ret {K : PySem.W.Frag} {α β : Type} {rel : RelT β α} {a : α} {b : β} (hr : ∀ φ n H, rel φ n H b a) {σ : L2.St} {H : Hp} {Q : β → Hp → Prop} (h : rd K ec rel W (mRet a) σ H Q) : Q b H := by
  obtain ⟨φ, S, ρ, ok, env, r, e, q⟩ := h
  cases e
  exact q φ H b (Ext.refl _ _ _) ok (hr _ _ _)
theorem x_int {i : Int} {j} {pos : Pos} : XE X ec W (.Constant (.int i) j pos) (mRet (.int i)) := imE pe_int fun _ _ _ h => rd_ret (fun _ _ _ => .int i) h
theorem x_bl {b : Bool} {j} {pos : Pos} : XE X ec W (.Constant (.bool b) j pos) (mRet (.bl b)) := imE pe_bl fun _ _ _ h => rd_ret (fun _ _ _ => .bl b) h
theorem x_non {j} {pos : Pos} : XE X ec W (.Constant .none j pos) (mRet .non) := imE pe_non fun _ _ _ h => rd_ret (fun _ _ _ => .non) h
theorem x_str {x : Str} {j} {pos : Pos} : XE X ec W (.Constant (.str x) j pos) (mRet (.str x)) := imE pe_str fun _ _ _ h => rd_ret (fun _ _ _ => .str x) h
/-- a built-in class as a value -/
theorem x_ty {x : Str} {n : String} {pos : Pos} (hm : X.mg x = none) (hv : bootBuiltins x = some (.type n)) (hg : Gl X x := by rfl) (hn : x ≠ "__name__" := by decide) (hd : (x == ("__debug__" : Str)) = false := by decide) : XE X ec W (.Name x pos) (mRet (.ty n)) :=
  imE (pe_bltn (v := .ty n) (u := .type n) hg hm hv rfl hn hd) fun _ _ _ h => rd_ret (fun _ _ _ => .ty n) h
/-- a constant of the module -/
theorem x_glob {x : Str} {v : V} {d : D} {u : Value} {pos : Pos} (hm : X.mg x = some u) (r : RelV v u) (hr : ∀ φ n H, Rel X.K φ n H v d) (hg : Gl X x := by rfl) (hd : (x == ("__debug__" : Str)) = false := by decide) : XE X ec W (.Name x pos) (mRet d) :=
  imE (pe_glob hg hm r hd) fun _ _ _ h => rd_ret hr h

/-! ### operators -/
abbrev G2 := D → D → Sto → Option (D × Sto)
def OpS (X : Cx) (f : Value → Value → Sem Value) (g : G2) : Prop := ∃ r : R2, OpR X f r ∧ ∀ (φ : Nat → Addr) (S : Sto) (H : Hp) (x y : V) (a b c : D) (S' : Sto), Ok X.K φ S H → Rel X.K φ S.length H x a → Rel X.K φ S.length H y b → g a b S = some (c, S') →
  ∀ Q : VK, (∀ φ' H' v, Ext φ S.length H φ' S'.length H' → Ok X.K φ' S' H' → Rel X.K φ' S'.length H' v c → Q v H') → r x y H Q
def mOp (g : G2) (ma mb : M D) : M D := mB ma fun a => mB mb fun b _ S => match g a b S with
  | some (c, S') => some (.val c S')
  | none => none
theorem rd_op {f : Value → Value → Sem Value} {g : G2} {ma mb : M D} {σ : L2.St} {H : Hp} {Q : VK} {r : R2} (hr : ∀ (φ : Nat → Addr) (S : Sto) (H : Hp) (x y : V) (a b c : D) (S' : Sto), Ok X.K φ S H → Rel X.K φ S.length H x a → Rel X.K φ S.length H y b → g a b S = some (c, S') →
  ∀ Q : VK, (∀ φ' H' v, Ext φ S.length H φ' S'.length H' → Ok X.K φ' S' H' → Rel X.K φ' S'.length H' v c → Q v H') → r x y H Q) (h : rd X.K ec (Rel X.K) W (mOp g ma mb) σ H Q) : tOp r (rd X.K ec (Rel X.K) W ma) (rd X.K ec (Rel X.K) W mb) σ H Q := by
  obtain ⟨φ, S, ρ, c⟩ := Cf.start h
  refine rd_imp (c.bind (rel1 := Rel X.K) monoC_true) fun x H1 ⟨φ1, S1, a, ra, c1⟩ => ?_
  refine rd_imp ((c1.carry ra).bind (rel1 := Rel X.K) monoC_rel) fun y H2 ⟨φ2, S2, b, rb, c2⟩ => ?_
  obtain ⟨r', e, q⟩ := c2.run
  cases hg : g a b S2 with
  | none => rw [hg] at e; cases e
  | some p =>
    obtain ⟨z, S'⟩ := p
    rw [hg] at e
    cases e
    exact hr φ2 S2 H2 x y a b z S' c2.ok c2.car rb hg Q q
theorem x_bin {op : Operator} {g : G2} {a b : Expr} {ma mb : M D} {pos : Pos} (ho : OpS X (binaryOp op) g) (ha : XE X ec W a ma) (hb : XE X ec W b mb) : XE X ec W (.BinOp a op b pos) (mOp g ma mb) := by
  obtain ⟨r, hr, i⟩ := ho
  exact imE (pe_op hr ha hb) fun σ H Q h => rd_op (f := binaryOp op) i h
theorem x_cmp {op : CmpOp} {g : G2} {a b : Expr} {ma mb : M D} {pos : Pos} (ho : OpS X (compareOp op) g) (ha : XE X ec W a ma) (hb : XE X ec W b mb) (hm : behindInMarks op b = false := by first | exact nomark _ | rfl) : XE X ec W (.Compare a [op] [b] pos) (mOp g ma mb) := by
  obtain ⟨r, hr, i⟩ := ho
  exact imE (pe_cmpR hr ha hb hm) fun σ H Q h => rd_op (f := compareOp op) i h
theorem OpS.or {f : Value → Value → Sem Value} {g g' : G2} (h : OpS X f g) (h' : OpS X f g') : OpS X f (fun a b S => match g a b S with | some z => some z | none => g' a b S) := by
  obtain ⟨r, hr, i⟩ := h
  obtain ⟨r', hr', i'⟩ := h'
  refine ⟨_, OpR.or hr hr', fun φ S H x y a b c S' ok ra rb e Q q => ?_⟩
  dsimp only at e
  cases e1 : g a b S with
  | some z =>
    rw [e1] at e
    cases e
    exact .inl (i φ S H x y a b c S' ok ra rb e1 Q q)
  | none =>
    rw [e1] at e
    exact .inr (i' φ S H x y a b c S' ok ra rb e Q q)
/-- another name for the same -/
theorem OpS.to {f : Value → Value → Sem Value} {g g' : G2} (h : OpS X f g) (e : ∀ a b S, g' a b S = g a b S) : OpS X f g' := by
  obtain ⟨r, hr, i⟩ := h
  exact ⟨r, hr, fun φ S H x y a b c S' ok ra rb e1 Q q => i φ S H x y a b c S' ok ra rb (by rw [← e]; exact e1) Q q⟩

/-- ints to a value -/
def gI (C : Int → Int → Bool) (g : Int → Int → D) : G2 := fun a b S => match a, b with
  | .int i, .int j => if C i j then some (g i j, S) else none
  | _, _ => none
theorem opS_I {f : Value → Value → Sem Value} {C : Int → Int → Prop} {c : Int → Int → Bool} {g : Int → Int → V} {g' : Int → Int → D} (ho : OpR X f (rI C g)) (hc : ∀ i j, c i j = true → C i j) (hg : ∀ i j φ n H, Rel X.K φ n H (g i j) (g' i j)) : OpS X f (gI c g') := by
  refine ⟨_, ho, fun φ S H x y a b d S' ok ra rb e Q q => ?_⟩
  unfold gI at e
  split at e
  · split at e
    · rename_i i j h
      cases e
      cases ra
      cases rb
      exact ⟨i, j, rfl, rfl, hc _ _ h, q φ H _ (Ext.refl _ _ _) ok (hg _ _ _ _ _)⟩
    · cases e
  · cases e
theorem opS_I0 {f : Value → Value → Sem Value} {g : Int → Int → V} {g' : Int → Int → D} (ho : OpR X f (rI0 g)) (hg : ∀ i j φ n H, Rel X.K φ n H (g i j) (g' i j)) : OpS X f (gI (fun _ _ => true) g') := by
  refine ⟨_, ho, fun φ S H x y a b d S' ok ra rb e Q q => ?_⟩
  unfold gI at e
  split at e
  · cases e
    cases ra
    cases rb
    exact ⟨_, _, rfl, rfl, q φ H _ (Ext.refl _ _ _) ok (hg _ _ _ _ _)⟩
  · cases e
/-- texts -/
def gS (C : Str → Str → Bool) (g : Str → Str → D) : G2 := fun a b S => match a, b with
  | .str i, .str j => if C i j then some (g i j, S) else none
  | _, _ => none
theorem opS_add_str : OpS X (binaryOp .Add) (gS (fun i j => decide (i.length + j.length ≤ 1000000)) fun i j => .str (i ++ j)) := by
  refine ⟨_, op_add_str, fun φ S H x y a b d S' ok ra rb e Q q => ?_⟩
  unfold gS at e
  split at e
  · split at e
    · rename_i i j h
      cases e
      cases ra
      cases rb
      exact ⟨i, j, rfl, rfl, Nat.le_trans (of_decide_eq_true h) (by decide), q φ H _ (Ext.refl _ _ _) ok (.str _)⟩
    · cases e
  · cases e
theorem Rels.len {K : PySem.W.Frag} {φ : Nat → Addr} {n : Nat} {H : Hp} : ∀ {xs : List V} {ds : List D}, Rels K φ n H xs ds → xs.length = ds.length
  | _, _, .nil => rfl
  | _, _, .cons _ t => by rw [List.length_cons, List.length_cons, Rels.len t]
theorem Rels.app {K : PySem.W.Frag} {φ : Nat → Addr} {n : Nat} {H : Hp} : ∀ {xs ys : List V} {ds es : List D}, Rels K φ n H xs ds → Rels K φ n H ys es → Rels K φ n H (xs ++ ys) (ds ++ es)
  | _, _, _, _, .nil, s => s
  | _, _, _, _, .cons r t, s => .cons r (Rels.app t s)
theorem Rels.get {K : PySem.W.Frag} {φ : Nat → Addr} {n : Nat} {H : Hp} : ∀ {xs : List V} {ds : List D} (i : Nat) {d : D}, Rels K φ n H xs ds → ds[i]? = some d → ∃ v, xs[i]? = some v ∧ Rel K φ n H v d
  | _, _, _, _, .nil, e => by simp at e
  | _, _, 0, _, .cons r _, e => by simp at e; subst e; exact ⟨_, rfl, r⟩
  | _, _, i + 1, _, .cons _ t, e => by
    obtain ⟨v, h, r⟩ := Rels.get i t (by simpa using e)
    exact ⟨v, by simpa using h, r⟩
theorem Rels.drop {K : PySem.W.Frag} {φ : Nat → Addr} {n : Nat} {H : Hp} : ∀ {xs : List V} {ds : List D} (i : Nat), Rels K φ n H xs ds → Rels K φ n H (xs.drop i) (ds.drop i)
  | _, _, 0, r => r
  | _, _, _ + 1, .nil => .nil
  | _, _, i + 1, .cons _ t => Rels.drop i t
theorem Rels.take {K : PySem.W.Frag} {φ : Nat → Addr} {n : Nat} {H : Hp} : ∀ {xs : List V} {ds : List D} (i : Nat), Rels K φ n H xs ds → Rels K φ n H (xs.take i) (ds.take i)
  | _, _, 0, _ => .nil
  | _, _, _ + 1, .nil => .nil
  | _, _, i + 1, .cons r t => .cons r (Rels.take i t)
theorem Rels.rev {K : PySem.W.Frag} {φ : Nat → Addr} {n : Nat} {H : Hp} : ∀ {xs : List V} {ds : List D}, Rels K φ n H xs ds → Rels K φ n H xs.reverse ds.reverse
  | _, _, .nil => .nil
  | _, _, .cons r t => by
    rw [List.reverse_cons, List.reverse_cons]
    exact (Rels.rev t).app (.cons r .nil)
theorem Rels.nil_iff {K : PySem.W.Frag} {φ : Nat → Addr} {n : Nat} {H : Hp} {xs : List V} {ds : List D} (r : Rels K φ n H xs ds) : xs = [] ↔ ds = [] := by
  cases r <;> simp
def gT (C : List D → List D → Bool) (g : List D → List D → D) : G2 := fun a b S => match a, b with
  | .tup xs, .tup ys => if C xs ys then some (g xs ys, S) else none
  | _, _ => none
theorem szl {n : Nat} (h : n ≤ 1000000) : n ≤ sizeLine := Nat.le_trans h (by decide)
theorem opS_cat_tup : OpS X (binaryOp .Add) (gT (fun xs ys => decide (xs.length + ys.length ≤ 1000000)) fun xs ys => .tup (xs ++ ys)) := by
  refine ⟨_, op_catA, fun φ S H x y a b d S' ok ra rb e Q q => ?_⟩
  unfold gT at e
  split at e
  · split at e
    · rename_i xs ys h
      cases e
      cases ra with
      | tup h1 r1 =>
        cases rb with
        | tup h2 r2 =>
          refine ⟨_, _, _, _, rfl, rfl, h1, h2, ?_, fun z => ?_, fun z z2 => ?_, fun z z2 p hp => ?_⟩
          · rw [r1.len, r2.len]; exact szl (of_decide_eq_true h)
          · have e0 := r1.nil_iff.mp z
            subst e0
            exact q φ H _ (Ext.refl _ _ _) ok (.tup h2 r2)
          · have e0 := r2.nil_iff.mp z2
            subst e0
            refine q φ H _ (Ext.refl _ _ _) ok (.tup h1 ?_)
            rw [List.append_nil]; exact r1
          · exact q φ _ _ (ext_imm hp) (ok.imm hp) (.tup (SqT.of upd_same) ((r1.app r2).mono ok (ext_imm hp)))
    · cases e
  · cases e
/-- two lists joined into a new one -/
def gCat : G2 := fun a b S => match a, b with
  | .ref i, .ref j => match S[i]?, S[j]? with
    | some (.lst xs), some (.lst ys) => if xs.length + ys.length ≤ 1000000 then some (.ref S.length, S ++ [.lst (xs ++ ys)]) else none
    | _, _ => none
  | _, _ => none
theorem Ok.lst {K : PySem.W.Frag} {φ : Nat → Addr} {S : Sto} {H : Hp} (ok : Ok K φ S H) {i : Nat} {ds : List D} (h : S[i]? = some (.lst ds)) : ∃ xs, H (φ i) = some (.lst xs) ∧ Rels K φ S.length H xs ds := by
  obtain ⟨ho, e, r⟩ := ok.obj i _ h
  cases r with
  | lst r => exact ⟨_, e, r⟩
theorem opS_cat_lst : OpS X (binaryOp .Add) gCat := by
  refine ⟨_, op_cat, fun φ S H x y a b d S' ok ra rb e Q q => ?_⟩
  unfold gCat at e
  split at e
  · split at e
    · split at e
      · rename_i i j xs ys hi hj h
        cases e
        cases ra
        cases rb
        obtain ⟨us, h1, r1⟩ := ok.lst hi
        obtain ⟨ws, h2, r2⟩ := ok.lst hj
        refine ⟨_, _, us, ws, rfl, rfl, h1, h2, by rw [r1.len, r2.len]; exact szl h, fun p hp => ?_⟩
        have ex := ext_new (S := S) (φ := φ) (H := H) (ho := .lst (us ++ ws)) hp
        refine q (nxt φ S.length p) _ _ (by rw [List.length_append, List.length_singleton]; exact ex) (ok.new hp (.lst (r1.app r2))) ?_
        rw [List.length_append, List.length_singleton]
        have := @Rel.ref X.K (nxt φ S.length p) (S.length + 1) (upd H p (.lst (us ++ ws))) S.length (Nat.lt_succ_self _)
        rw [nxt_new] at this
        exact this
      · cases e
    · cases e
  · cases e

/-! the operators -/
def mulOk (i j : Int) : Bool := decide (i.natAbs < 2 ^ 63) || decide (j.natAbs < 2 ^ 63) || decide (i.natAbs.log2 + j.natAbs.log2 < 1000000)
def CMulA (i j : Int) : Prop := CMul i j ∨ CMulW i j
theorem op_mulA : OpR X (binaryOp .Mult) (rI CMulA fun i j => .int (i * j)) := opI fun _ _ _ _ _ _ _ hc q => mul_int q (hc.elim CMul.ok CMulW.ok)
theorem mulOk_of {i j : Int} (h : mulOk i j = true) : CMulA i j := by
  unfold mulOk at h
  rw [Bool.or_eq_true, Bool.or_eq_true] at h
  rcases h with (h | h) | h
  · have := of_decide_eq_true h
    exact .inl (.inl ⟨by omega, by omega⟩)
  · have := of_decide_eq_true h
    exact .inl (.inr ⟨by omega, by omega⟩)
  · exact .inr (of_decide_eq_true (p := i.natAbs.log2 + j.natAbs.log2 < 1000000) h)
def divOk (_ j : Int) : Bool := decide (j ≠ 0) && decide (j.natAbs.log2 < 9000)
def orG (g g' : G2) : G2 := fun a b S => match g a b S with
  | some z => some z
  | none => g' a b S
def gAdd : G2 := orG (gI (fun _ _ => true) fun i j => .int (i + j)) (orG (gS (fun i j => decide (i.length + j.length ≤ 1000000)) fun i j => .str (i ++ j)) (orG (gT (fun xs ys => decide (xs.length + ys.length ≤ 1000000)) fun xs ys => .tup (xs ++ ys)) gCat))
theorem opS_add : OpS X (binaryOp .Add) gAdd := (opS_I0 op_add fun _ _ _ _ _ => .int _).or (opS_add_str.or (opS_cat_tup.or opS_cat_lst))
abbrev gSub : G2 := gI (fun _ _ => true) fun i j => .int (i - j)
theorem opS_sub : OpS X (binaryOp .Sub) gSub := opS_I0 op_sub fun _ _ _ _ _ => .int _
abbrev gMul : G2 := gI mulOk fun i j => .int (i * j)
theorem opS_mul : OpS X (binaryOp .Mult) gMul := opS_I op_mulA (fun _ _ h => mulOk_of h) fun _ _ _ _ _ => .int _
def CDivA (i j : Int) : Prop := j ≠ 0 ∧ j.natAbs.log2 < 9000
theorem op_fdivA : OpR X (binaryOp .FloorDiv) (rI CDivA fun i j => .int (i.fdiv j)) := opI fun i j _ _ _ _ _ hc q => floordiv_int hc.1 q (.inl (PyProof.noPylong_of_log2 hc.2))
abbrev gDiv : G2 := gI divOk fun i j => .int (i.fdiv j)
theorem opS_div : OpS X (binaryOp .FloorDiv) gDiv := opS_I op_fdivA (fun i j h => by
  unfold divOk at h
  rw [Bool.and_eq_true] at h
  exact ⟨of_decide_eq_true h.1, of_decide_eq_true h.2⟩) fun _ _ _ _ _ => .int _
abbrev gMod : G2 := gI (fun _ j => decide (j ≠ 0)) fun i j => .int (i.fmod j)
theorem opS_mod : OpS X (binaryOp .Mod) gMod := opS_I op_modN (fun _ _ h => of_decide_eq_true h) fun _ _ _ _ _ => .int _
abbrev gPow : G2 := gI (fun i j => decide (0 ≤ j) && decide (j ≤ 1000000) && decide (i.natAbs < 2 ^ 64)) fun i j => .int (i ^ j.toNat)
theorem opS_pow : OpS X (binaryOp .Pow) gPow := opS_I op_pow (fun i j h => by
  rw [Bool.and_eq_true, Bool.and_eq_true] at h
  exact ⟨of_decide_eq_true h.1.1, of_decide_eq_true h.1.2, of_decide_eq_true h.2⟩) fun _ _ _ _ _ => .int _
abbrev gShr : G2 := gI (fun _ j => decide (0 ≤ j)) fun i j => .int (i / 2 ^ j.toNat)
theorem opS_shr : OpS X (binaryOp .RShift) gShr := opS_I op_shr (fun _ _ h => of_decide_eq_true h) fun _ _ _ _ _ => .int _
abbrev gShl : G2 := gI (fun i j => decide (0 ≤ j) && decide ((Builtin.Int.intBits i : Int) + j ≤ 2 ^ 27)) fun i j => .int (i * 2 ^ j.toNat)
theorem opS_shl : OpS X (binaryOp .LShift) gShl := opS_I op_shlW (fun i j h => by
  rw [Bool.and_eq_true] at h
  exact ⟨of_decide_eq_true h.1, of_decide_eq_true h.2⟩) fun _ _ _ _ _ => .int _
abbrev gAnd : G2 := gI (fun _ _ => true) fun i j => .int (Builtin.bitAnd i j)
theorem opS_and : OpS X (binaryOp .BitAnd) gAnd := opS_I0 op_and fun _ _ _ _ _ => .int _
abbrev gLt : G2 := gI (fun _ _ => true) fun i j => .bl (decide (i < j))
theorem opS_lt : OpS X (compareOp .Lt) gLt := opS_I0 op_lt fun _ _ _ _ _ => .bl _
abbrev gLe : G2 := gI (fun _ _ => true) fun i j => .bl (decide (i ≤ j))
theorem opS_le : OpS X (compareOp .LtE) gLe := opS_I0 op_le fun _ _ _ _ _ => .bl _
abbrev gGt : G2 := gI (fun _ _ => true) fun i j => .bl (decide (j < i))
theorem opS_gt : OpS X (compareOp .Gt) gGt := opS_I0 op_gt fun _ _ _ _ _ => .bl _
abbrev gGe : G2 := gI (fun _ _ => true) fun i j => .bl (decide (j ≤ i))
theorem opS_ge : OpS X (compareOp .GtE) gGe := opS_I0 op_ge fun _ _ _ _ _ => .bl _
end Rf
namespace Rf
open PySem PySem.Spec PyProof.Rows L2

variable {X : Cx} {ec : Str → Value} {W : WX}
/-! ### one value to another -/
abbrev G1 := D → Sto → Option (D × Sto)
def mUn (g : G1) (ma : M D) : M D := mB ma fun a _ S => match g a S with
  | some (c, S') => some (.val c S')
  | none => none
def gNeg : G1 := fun a S => match a with
  | .int i => some (.int (-i), S)
  | _ => none
theorem x_neg {a : Expr} {ma : M D} {pos : Pos} (ha : XE X ec W a ma) : XE X ec W (.UnaryOp .USub a pos) (mUn gNeg ma) := imE (pe_un un_neg ha) fun σ H Q h => by
  obtain ⟨φ, S, ρ, c⟩ := Cf.start h
  refine rd_imp (c.bind (rel1 := Rel X.K) monoC_true) fun x H1 ⟨φ1, S1, a, ra, c1⟩ => ?_
  obtain ⟨r', e, q⟩ := c1.run
  cases a <;> first | cases e | skip
  cases ra
  exact ⟨_, rfl, q φ1 H1 _ (Ext.refl _ _ _) c1.ok (.int _)⟩
def gNot : G1 := fun a S => match a with
  | .bl i => some (.bl (!i), S)
  | _ => none
theorem x_not {a : Expr} {ma : M D} {pos : Pos} (ha : XE X ec W a ma) : XE X ec W (.UnaryOp .Not a pos) (mUn gNot ma) := imE (pe_not ha) fun σ H Q h => by
  obtain ⟨φ, S, ρ, c⟩ := Cf.start h
  refine rd_imp (c.bind (rel1 := Rel X.K) monoC_true) fun x H1 ⟨φ1, S1, a, ra, c1⟩ => ?_
  obtain ⟨r', e, q⟩ := c1.run
  cases a <;> first | cases e | skip
  cases ra
  exact ⟨_, rfl, q φ1 H1 _ (Ext.refl _ _ _) c1.ok (.bl _)⟩

/-! ### and, or: values, all but the last True or False -/
theorem x_one {op} {a : Expr} {ma : M D} {pos : Pos} (ha : XE X ec W a ma) : XE X ec W (.BoolOp op [a] pos) ma := pe_one ha
def mAndV (ma mb : M D) : M D := mB ma fun a => match a with
  | .bl true => mb
  | .bl false => mRet (.bl false)
  | _ => fun _ _ => none
def mOrV (ma mb : M D) : M D := mB ma fun a => match a with
  | .bl true => mRet (.bl true)
  | .bl false => mb
  | _ => fun _ _ => none
/-- what is left of an evaluation is a reading -/
theorem Cf.rest {K : PySem.W.Frag} {α β : Type} {rel : RelT β α} {C : (Nat → Addr) → Nat → Hp → Prop} {φ : Nat → Addr} {S : Sto} {ρ : Env} {σ : L2.St} {H : Hp} {Q : β → Hp → Prop} {m : M α} (c : Cf K ec rel W C φ S ρ σ H Q (m ρ)) : rd K ec rel W m σ H Q :=
  let ⟨r, e, q⟩ := c.run
  ⟨φ, S, ρ, c.ok, c.env, r, e, q⟩
theorem x_andV {a b : Expr} {rest : List Expr} {ma mb : M D} {pos : Pos} (ha : XE X ec W a ma) (hb : XE X ec W (.BoolOp .And (b :: rest) pos) mb) : XE X ec W (.BoolOp .And (a :: b :: rest) pos) (mAndV ma mb) := imE (pe_and ha hb) fun σ H Q h => by
  obtain ⟨φ, S, ρ, c⟩ := Cf.start h
  refine rd_imp (c.bind (rel1 := Rel X.K) monoC_true) fun x H1 ⟨φ1, S1, a, ra, c1⟩ => ?_
  cases a with
  | bl k =>
    cases ra
    refine ⟨k, rfl, ?_⟩
    cases k with
    | true => exact iteT c1.rest
    | false => exact iteF (c1.ret rfl (.bl false))
  | _ => obtain ⟨_, e, _⟩ := c1.run; cases e
theorem x_orV {a b : Expr} {rest : List Expr} {ma mb : M D} {pos : Pos} (ha : XE X ec W a ma) (hb : XE X ec W (.BoolOp .Or (b :: rest) pos) mb) : XE X ec W (.BoolOp .Or (a :: b :: rest) pos) (mOrV ma mb) := imE (pe_or ha hb) fun σ H Q h => by
  obtain ⟨φ, S, ρ, c⟩ := Cf.start h
  refine rd_imp (c.bind (rel1 := Rel X.K) monoC_true) fun x H1 ⟨φ1, S1, a, ra, c1⟩ => ?_
  cases a with
  | bl k =>
    cases ra
    refine ⟨k, rfl, ?_⟩
    cases k with
    | true => exact iteT (c1.ret rfl (.bl true))
    | false => exact iteF c1.rest
  | _ => obtain ⟨_, e, _⟩ := c1.run; cases e

/-! ### tests -/
def mT (m : M D) : M Bool := mB m fun a => match a with
  | .bl c => mRet c
  | _ => fun _ _ => none
theorem x_test {a : Expr} {ma : M D} (ha : XE X ec W a ma) (he : ∀ whole, isTrue a X.env whole = (do let v ← whole; standAt a.pos; holding [v] (truthy v)) := by intro _; rfl) : XT X ec W a (mT ma) := imT (pt_val ha he) fun σ H Q h => by
  obtain ⟨φ, S, ρ, c⟩ := Cf.start h
  refine rd_imp (c.bind (rel1 := Rel X.K) monoC_true) fun x H1 ⟨φ1, S1, a, ra, c1⟩ => ?_
  obtain ⟨r', e, q⟩ := c1.run
  cases a <;> first | cases e | skip
  cases ra
  exact ⟨_, rfl, q φ1 H1 _ (Ext.refl _ _ _) c1.ok rfl⟩
theorem xt_cmp {op : CmpOp} {g : G2} {a b : Expr} {ma mb : M D} {pos : Pos} (ho : OpS X (compareOp op) g) (ha : XE X ec W a ma) (hb : XE X ec W b mb) (hm : behindInMarks op b = false := by first | exact nomark _ | rfl) : XT X ec W (.Compare a [op] [b] pos) (mT (mOp g ma mb)) := by
  obtain ⟨r, hr, i⟩ := ho
  refine imT (pt_cmpR hr ha hb hm) fun σ H Q h => ?_
  refine rd_op (f := compareOp op) (ec := ec) (W := W) i ?_
  obtain ⟨φ, S, ρ, c⟩ := Cf.start h
  refine rd_imp (c.bind (rel1 := Rel X.K) monoC_true) fun x H1 ⟨φ1, S1, a, ra, c1⟩ => ?_
  obtain ⟨r', e, q⟩ := c1.run
  cases a <;> first | cases e | skip
  cases ra
  exact ⟨_, rfl, q φ1 H1 _ (Ext.refl _ _ _) c1.ok rfl⟩
/-- the truth of any value -/
def truD : D → Sto → Option Bool := fun a S => match a with
  | .non => some false
  | .bl c => some c
  | .int i => some (i != 0)
  | .str y => if y.length ≤ 1000000 then some ((y.length : Int) != 0) else none
  | .tup xs => some (!xs.isEmpty)
  | .fro xs => some (!xs.isEmpty)
  | .ref i => match S[i]? with
    | some (.lst xs) => some (!xs.isEmpty)
    | _ => none
  | _ => none
def mTru (m : M D) : M Bool := mB m fun a _ S => match truD a S with
  | some c => some (.val c S)
  | none => none
theorem Rels.empty {K : PySem.W.Frag} {φ : Nat → Addr} {n : Nat} {H : Hp} {xs : List V} {ds : List D} (r : Rels K φ n H xs ds) : xs.isEmpty = ds.isEmpty := by cases r <;> rfl
theorem x_truth {a : Expr} {ma : M D} (ha : XE X ec W a ma) (he : ∀ whole, isTrue a X.env whole = (do let v ← whole; standAt a.pos; holding [v] (truthy v)) := by intro _; rfl) : XT X ec W a (mTru ma) := imT (pt_truth ha he) fun σ H Q h => by
  obtain ⟨φ, S, ρ, c⟩ := Cf.start h
  refine rd_imp (c.bind (rel1 := Rel X.K) monoC_true) fun x H1 ⟨φ1, S1, a, ra, c1⟩ => ?_
  obtain ⟨r', e, q⟩ := c1.run
  cases hc : truD a S1 with
  | none => rw [hc] at e; cases e
  | some k =>
    rw [hc] at e
    cases e
    refine ⟨k, ?_, q φ1 H1 _ (Ext.refl _ _ _) c1.ok rfl⟩
    cases ra with
    | non => cases hc; rfl
    | bl b => cases hc; rfl
    | int i => cases hc; rfl
    | str y =>
      unfold truD at hc
      dsimp only at hc
      split at hc
      · cases hc; exact ⟨szl (by assumption), rfl⟩
      · cases hc
    | ty _ => cases hc
    | tup h r => cases hc; exact .inr (.inl ⟨_, h, by rw [r.empty]⟩)
    | fro h r => cases hc; exact .inl ⟨_, h.sq, by rw [r.empty]⟩
    | ref hi =>
      unfold truD at hc
      dsimp only at hc
      split at hc
      · rename_i xs hx
        cases hc
        obtain ⟨us, h1, r1⟩ := c1.ok.lst hx
        exact .inl ⟨us, SqL.of h1, by rw [r1.empty]⟩
      · cases hc
def mNotB (m : M Bool) : M Bool := mB m fun c => mRet (!c)
theorem xt_not {a : Expr} {ma : M Bool} {pos : Pos} (ha : XT X ec W a ma) : XT X ec W (.UnaryOp .Not a pos) (mNotB ma) := imT (pt_not ha) fun σ H Q h => by
  obtain ⟨φ, S, ρ, c⟩ := Cf.start h
  refine rd_imp (c.bind (rel1 := RelB) monoC_true) fun x H1 ⟨φ1, S1, a, ra, c1⟩ => ?_
  cases ra
  exact c1.ret rfl rfl
def XW (X : Cx) (ec : Str → Value) (W : WX) (e : Expr) (m : M Bool) : Prop := PW X e (rd X.K ec RelB W m)
theorem imW {e : Expr} {t t' : TT} (h : PW X e t) (i : ∀ σ H Q, t' σ H Q → t σ H Q) : PW X e t' := ⟨fun wh pins s σ H Q I q => h.run wh pins s σ H Q I (i σ H Q q)⟩
theorem XW.xt {e : Expr} {m : M Bool} (h : XW X ec W e m) : XT X ec W e m := PW.pt h
def mAnd (ma mb : M Bool) : M Bool := mB ma fun c => match c with
  | true => mb
  | false => mRet false
def mOr (ma mb : M Bool) : M Bool := mB ma fun c => match c with
  | true => mRet true
  | false => mb
theorem xw_and1 {a : Expr} {ma : M Bool} {pos : Pos} (ha : XT X ec W a ma) : XW X ec W (.BoolOp .And [a] pos) ma := pw_and1 ha
theorem xw_or1 {a : Expr} {ma : M Bool} {pos : Pos} (ha : XT X ec W a ma) : XW X ec W (.BoolOp .Or [a] pos) ma := pw_or1 ha
theorem xw_and {a b : Expr} {rest : List Expr} {ma mb : M Bool} {pos : Pos} (ha : XT X ec W a ma) (hb : XW X ec W (.BoolOp .And (b :: rest) pos) mb) : XW X ec W (.BoolOp .And (a :: b :: rest) pos) (mAnd ma mb) := imW (pw_and ha hb) fun σ H Q h => by
  obtain ⟨φ, S, ρ, c⟩ := Cf.start h
  refine rd_imp (c.bind (rel1 := RelB) monoC_true) fun x H1 ⟨φ1, S1, k, ra, c1⟩ => ?_
  cases ra
  cases x with
  | true => exact iteT c1.rest
  | false => exact iteF (c1.ret rfl rfl)
theorem xw_or {a b : Expr} {rest : List Expr} {ma mb : M Bool} {pos : Pos} (ha : XT X ec W a ma) (hb : XW X ec W (.BoolOp .Or (b :: rest) pos) mb) : XW X ec W (.BoolOp .Or (a :: b :: rest) pos) (mOr ma mb) := imW (pw_or ha hb) fun σ H Q h => by
  obtain ⟨φ, S, ρ, c⟩ := Cf.start h
  refine rd_imp (c.bind (rel1 := RelB) monoC_true) fun x H1 ⟨φ1, S1, k, ra, c1⟩ => ?_
  cases ra
  cases x with
  | true => exact iteT (c1.ret rfl rfl)
  | false => exact iteF c1.rest
def mIf {α : Type} (mc : M Bool) (ma mb : M α) : M α := mB mc fun c => match c with
  | true => ma
  | false => mb
theorem x_ife {c a b : Expr} {mc : M Bool} {ma mb : M D} {pos : Pos} (hc : XT X ec W c mc) (ha : XE X ec W a ma) (hb : XE X ec W b mb) : XE X ec W (.IfExp c a b pos) (mIf mc ma mb) := imE (pe_ifExp hc ha hb) fun σ H Q h => by
  obtain ⟨φ, S, ρ, c⟩ := Cf.start h
  refine rd_imp (c.bind (rel1 := RelB) monoC_true) fun x H1 ⟨φ1, S1, k, ra, c1⟩ => ?_
  cases ra
  cases x with
  | true => exact iteT c1.rest
  | false => exact iteF c1.rest

/-! ### argument lists, displays -/
def mNil : M (List D) := mRet []
def mCons (ma : M D) (mr : M (List D)) : M (List D) := mB ma fun a => mB mr fun as => mRet (a :: as)
theorem xa_nil : XA X ec W [] mNil := imA pa_nil fun σ H Q h => rd_ret (fun _ _ _ => .nil) h
theorem xa_cons {e : Expr} {es : List Expr} {ma : M D} {mr : M (List D)} (ha : XE X ec W e ma) (hr : XA X ec W es mr) (hs : starEach (e :: es) X.env = (false, eval e X.env) :: starEach es X.env := by rfl) : XA X ec W (e :: es) (mCons ma mr) := imA (pa_cons ha hr hs) fun σ H Q h => by
  obtain ⟨φ, S, ρ, c⟩ := Cf.start h
  refine rd_imp (c.bind (rel1 := Rel X.K) monoC_true) fun x H1 ⟨φ1, S1, a, ra, c1⟩ => ?_
  refine rd_imp ((c1.carry ra).bind (rel1 := Rels X.K) monoC_rel) fun xs H2 ⟨φ2, S2, as, rs, c2⟩ => ?_
  exact c2.ret rfl (.cons c2.car rs)
def mTup (ms : M (List D)) : M D := mB ms fun ds => if ds.length ≤ 1000 then mRet (.tup ds) else fun _ _ => none
theorem x_tup {es : List Expr} {ms : M (List D)} {k} {pos : Pos} (h : XA X ec W es ms) : XE X ec W (.Tuple es k pos) (mTup ms) := imE (pe_tup h) fun σ H Q h => by
  obtain ⟨φ, S, ρ, c⟩ := Cf.start h
  refine rd_imp (c.bind (rel1 := Rels X.K) monoC_true) fun x H1 ⟨φ1, S1, ds, ra, c1⟩ => ?_
  obtain ⟨r', e, q⟩ := c1.run
  by_cases hl : ds.length ≤ 1000
  · simp only [if_pos hl] at e
    cases e
    refine ⟨by rw [ra.len]; exact szl (by omega), fun p hp => ?_⟩
    exact q φ1 _ _ (ext_imm hp) (c1.ok.imm hp) (.tup (SqT.of upd_same) (ra.mono c1.ok (ext_imm hp)))
  · simp only [if_neg hl] at e
    cases e
/-- a new list -/
def mNew (ds : List D) : M D := fun _ S => some (.val (.ref S.length) (S ++ [.lst ds]))
theorem Cf.new {K : PySem.W.Frag} {C : (Nat → Addr) → Nat → Hp → Prop} {φ : Nat → Addr} {S : Sto} {ρ : Env} {σ : L2.St} {H : Hp} {Q : VK} {k : Sto → Option (R D)} {ds : List D} {xs : List V} (c : Cf K ec (Rel K) W C φ S ρ σ H Q k) (hk : k S = some (.val (.ref S.length) (S ++ [.lst ds])))
    (r : Rels K φ S.length H xs ds) {p : Addr} (hp : H p = none) : Q (.ref p) (upd H p (.lst xs)) := by
  have ex := ext_new (S := S) (φ := φ) (H := H) (ho := .lst xs) hp
  refine c.done hk (φ' := nxt φ S.length p) (by rw [List.length_append, List.length_singleton]; exact ex) (c.ok.new hp (.lst r)) ?_
  rw [List.length_append, List.length_singleton]
  have := @Rel.ref K (nxt φ S.length p) (S.length + 1) (upd H p (.lst xs)) S.length (Nat.lt_succ_self _)
  rw [nxt_new] at this
  exact this
def mLst (ms : M (List D)) : M D := mB ms fun ds => if ds.length ≤ 1000 then mNew ds else fun _ _ => none
theorem x_lst {es : List Expr} {ms : M (List D)} {pos : Pos} (h : XA X ec W es ms) : XE X ec W (.List es pos) (mLst ms) := imE (pe_lst h) fun σ H Q h => by
  obtain ⟨φ, S, ρ, c⟩ := Cf.start h
  refine rd_imp (c.bind (rel1 := Rels X.K) monoC_true) fun x H1 ⟨φ1, S1, ds, ra, c1⟩ => ?_
  by_cases hl : ds.length ≤ 1000
  · refine ⟨by rw [ra.len]; exact szl (by omega), fun p hp => c1.new ?_ ra hp⟩
    simp only [if_pos hl]
    rfl
  · obtain ⟨r', e, q⟩ := c1.run
    simp only [if_neg hl] at e
    cases e

/-! ### subscripts -/
/-- the items that a sequence has -/
def itemsOf (S : Sto) : D → Option (List D)
  | .tup xs => some xs
  | .fro xs => some xs
  | .ref i => match S[i]? with
    | some (.lst xs) => some xs
    | _ => none
  | _ => none
theorem items_rel {φ : Nat → Addr} {S : Sto} {H : Hp} {v : V} {d : D} {ds : List D} (ok : Ok X.K φ S H) (r : Rel X.K φ S.length H v d) (h : itemsOf S d = some ds) : ∃ p xs, v = .ref p ∧ (SqL X.K H p xs ∨ SqT X.K H p xs) ∧ Rels X.K φ S.length H xs ds := by
  cases r with
  | tup h1 r1 => cases h; exact ⟨_, _, rfl, .inr h1, r1⟩
  | fro h1 r1 => cases h; exact ⟨_, _, rfl, .inl h1.sq, r1⟩
  | ref hi =>
    unfold itemsOf at h
    dsimp only at h
    split at h
    · rename_i xs hx
      cases h
      obtain ⟨us, h1, r1⟩ := ok.lst hx
      exact ⟨_, us, rfl, .inl (SqL.of h1), r1⟩
    · cases h
  | non => cases h
  | bl _ => cases h
  | int _ => cases h
  | str _ => cases h
  | ty _ => cases h
theorem atI_rels {K : PySem.W.Frag} {φ : Nat → Addr} {n : Nat} {H : Hp} {xs : List V} {ds : List D} {i : Int} {d : D} (r : Rels K φ n H xs ds) (h : atI ds i = some d) : ∃ v, atI xs i = some v ∧ Rel K φ n H v d := by
  unfold atI at h ⊢
  rw [r.len]
  cases e : ixN ds.length i with
  | none => rw [e] at h; cases h
  | some j =>
    rw [e] at h
    exact r.get j h
def gIx : G2 := fun a b S => match b with
  | .int i => match a with
    | .str z => if z.length ≤ 1000000 then (atI z.cps.toList i).map fun c => (.str ⟨#[c]⟩, S) else none
    | a => (itemsOf S a).bind fun xs => (atI xs i).map fun d => (d, S)
  | _ => none
theorem x_ix {a b : Expr} {ma mb : M D} {pos : Pos} (ha : XE X ec W a ma) (hb : XE X ec W b mb) (hs : PlainIx b := by exact fun _ _ => rfl) : XE X ec W (.Subscript a b pos) (mOp gIx ma mb) :=
  imE (pe_ix ix_seq ha hb hs) fun σ H Q h => rd_op (f := fun _ _ => getItem .none .none) (fun φ S H x y a b c S' ok ra rb e Q q => by
    have seq : ∀ {i : Int} {xs : List D} {d : D}, itemsOf S a = some xs → atI xs i = some d → y = .int i → (c, S') = (d, S) → rIx X.K x y H Q := fun {i xs d} h1 h2 h3 h4 => by
      cases h4
      obtain ⟨p, us, e1, h5, r5⟩ := items_rel ok ra h1
      obtain ⟨v, h6, r6⟩ := atI_rels r5 h2
      have qq := q φ H v (Ext.refl _ _ _) ok r6
      rcases h5 with h5 | h5
      · exact .inl ⟨p, us, i, v, e1, h3, h5, h6, qq⟩
      · exact .inr (.inl ⟨p, us, i, v, e1, h3, h5, h6, qq⟩)
    cases rb with
    | int i =>
      unfold gIx at e
      dsimp only at e
      split at e
      · rename_i z
        split at e
        · rename_i hz
          cases h2 : atI z.cps.toList i with
          | none => rw [h2] at e; cases e
          | some cc =>
            rw [h2] at e
            cases e
            cases ra
            exact .inr (.inr ⟨z, i, cc, rfl, rfl, szl hz, h2, q φ H _ (Ext.refl _ _ _) ok (.str _)⟩)
        · cases e
      · cases h1 : itemsOf S a with
        | none => rw [h1] at e; cases e
        | some xs =>
          rw [h1] at e
          cases h2 : atI xs i with
          | none => simp only [Option.bind_some, h2] at e; cases e
          | some d =>
            simp only [Option.bind_some, h2] at e
            cases e
            exact seq h1 h2 rfl rfl
    | _ => cases e) h

/-! ### calls of built-ins -/
abbrev GN := List D → Sto → Option (D × Sto)
def CallS (X : Cx) (f : Value) (g : GN) : Prop := ∃ r : List V → Hp → VK → Prop, CallR X f r ∧ ∀ (φ : Nat → Addr) (S : Sto) (H : Hp) (xs : List V) (as : List D) (c : D) (S' : Sto), Ok X.K φ S H → Rels X.K φ S.length H xs as → g as S = some (c, S') →
  ∀ Q : VK, (∀ φ' H' v, Ext φ S.length H φ' S'.length H' → Ok X.K φ' S' H' → Rel X.K φ' S'.length H' v c → Q v H') → r xs H Q
def mBi (g : GN) (ms : M (List D)) : M D := mB ms fun as _ S => match g as S with
  | some (c, S') => some (.val c S')
  | none => none
theorem rd_bi {g : GN} {ms : M (List D)} {σ : L2.St} {H : Hp} {Q : VK} {r : List V → Hp → VK → Prop} (hr : ∀ (φ : Nat → Addr) (S : Sto) (H : Hp) (xs : List V) (as : List D) (c : D) (S' : Sto), Ok X.K φ S H → Rels X.K φ S.length H xs as → g as S = some (c, S') →
  ∀ Q : VK, (∀ φ' H' v, Ext φ S.length H φ' S'.length H' → Ok X.K φ' S' H' → Rel X.K φ' S'.length H' v c → Q v H') → r xs H Q) (h : rd X.K ec (Rel X.K) W (mBi g ms) σ H Q) : tCB r (rd X.K ec (Rels X.K) W ms) σ H Q := by
  obtain ⟨φ, S, ρ, c⟩ := Cf.start h
  refine rd_imp (c.bind (rel1 := Rels X.K) monoC_true) fun xs H1 ⟨φ1, S1, as, ra, c1⟩ => ?_
  obtain ⟨r', e, q⟩ := c1.run
  cases hg : g as S1 with
  | none => rw [hg] at e; cases e
  | some p =>
    obtain ⟨z, S'⟩ := p
    rw [hg] at e
    cases e
    exact hr φ1 S1 H1 xs as z S' c1.ok ra hg Q q
section
variable {x : Str} {p pos : Pos} {e : Expr} {es : List Expr} {id T : String} {g : GN} {ms : M (List D)}
theorem x_biB (hc : CallS X (.builtin id) g) (hm : X.mg x = none) (hv : bootBuiltins x = some (.builtin id)) (ha : XA X ec W (e :: es) ms) (hg : Gl X x := by rfl) (hn : x ≠ "__name__" := by decide) (hdb : (x == ("__debug__" : Str)) = false := by decide)
    (he : starEach (e :: es) X.env = (false, eval e X.env) :: starEach es X.env := by rfl) (hpl : (backTo pos (starEach es X.env)).any (·.1) = false := by rfl) : XE X ec W (.Call (.Name x p) (e :: es) [] pos) (mBi g ms) := by
  obtain ⟨r, hr, i⟩ := hc
  exact imE (pe_callB hr hg hm hv ha hn hdb he hpl) fun σ H Q h => rd_bi i h
theorem x_biT (hc : CallS X (.type T) g) (hm : X.mg x = none) (hv : bootBuiltins x = some (.type T)) (ha : XA X ec W (e :: es) ms) (hg : Gl X x := by rfl) (hn : x ≠ "__name__" := by decide) (hdb : (x == ("__debug__" : Str)) = false := by decide)
    (he : starEach (e :: es) X.env = (false, eval e X.env) :: starEach es X.env := by rfl) (hpl : (backTo pos (starEach es X.env)).any (·.1) = false := by rfl) : XE X ec W (.Call (.Name x p) (e :: es) [] pos) (mBi g ms) := by
  obtain ⟨r, hr, i⟩ := hc
  exact imE (pe_callTy hr hg hm hv ha hn hdb he hpl) fun σ H Q h => rd_bi i h
theorem x_biF (hc : CallS X (.builtin id) g) (hm : X.mg x = some (.builtin id)) (ha : XA X ec W (e :: es) ms) (hg : Gl X x := by rfl) (hdb : (x == ("__debug__" : Str)) = false := by decide)
    (he : starEach (e :: es) X.env = (false, eval e X.env) :: starEach es X.env := by rfl) (hpl : (backTo pos (starEach es X.env)).any (·.1) = false := by rfl) : XE X ec W (.Call (.Name x p) (e :: es) [] pos) (mBi g ms) := by
  obtain ⟨r, hr, i⟩ := hc
  exact imE (pe_callBfun hr hg hm ha hdb he hpl) fun σ H Q h => rd_bi i h
end
theorem CallS.or {f : Value} {g g' : GN} (h : CallS X f g) (h' : CallS X f g') : CallS X f (fun a S => match g a S with | some z => some z | none => g' a S) := by
  obtain ⟨r, hr, i⟩ := h
  obtain ⟨r', hr', i'⟩ := h'
  refine ⟨_, CallR.or hr hr', fun φ S H xs as c S' ok ra e Q q => ?_⟩
  dsimp only at e
  cases e1 : g as S with
  | some z =>
    rw [e1] at e
    cases e
    exact .inl (i φ S H xs as c S' ok ra e1 Q q)
  | none =>
    rw [e1] at e
    exact .inr (i' φ S H xs as c S' ok ra e Q q)
def gAbs : GN := fun as S => match as with
  | [.int i] => some (.int (if i < 0 then -i else i), S)
  | _ => none
theorem callS_abs : CallS X (.builtin "abs") gAbs := ⟨_, call_abs, fun φ S H xs as c S' ok ra e Q q => by
  unfold gAbs at e
  split at e
  · cases e
    cases ra with
    | cons r t => cases r; cases t; exact ⟨_, rfl, q φ H _ (Ext.refl _ _ _) ok (.int _)⟩
  · cases e⟩
def gGcd : GN := fun as S => match as with
  | [.int i, .int j] => some (.int ((Nat.gcd i.natAbs j.natAbs : Nat) : Int), S)
  | _ => none
theorem callS_gcd : CallS X (.builtin "math.gcd") gGcd := ⟨_, cr_gcd, fun φ S H xs as c S' ok ra e Q q => by
  unfold gGcd at e
  split at e
  · cases e
    cases ra with
    | cons r t =>
      cases r
      cases t with
      | cons r t => cases r; cases t; exact ⟨_, _, rfl, q φ H _ (Ext.refl _ _ _) ok (.int _)⟩
  · cases e⟩
def gInt : GN := fun as S => match as with
  | [.int i] => some (.int i, S)
  | [.bl k] => some (.int (if k then 1 else 0), S)
  | _ => none
theorem callS_int : CallS X (.type "int") gInt := ⟨_, call_int1, fun φ S H xs as c S' ok ra e Q q => by
  unfold gInt at e
  split at e
  · cases e
    cases ra with
    | cons r t => cases r; cases t; exact .inl ⟨_, rfl, q φ H _ (Ext.refl _ _ _) ok (.int _)⟩
  · cases e
    cases ra with
    | cons r t => cases r; cases t; exact .inr ⟨_, rfl, q φ H _ (Ext.refl _ _ _) ok (.int _)⟩
  · cases e⟩
def gLen : GN := fun as S => match as with
  | [a] => (itemsOf S a).map fun xs => (.int xs.length, S)
  | _ => none
theorem callS_len : CallS X (.builtin "len") gLen := ⟨_, call_len_seq, fun φ S H xs as c S' ok ra e Q q => by
  unfold gLen at e
  split at e
  · rename_i a
    cases h1 : itemsOf S a with
    | none => rw [h1] at e; cases e
    | some ds =>
      rw [h1] at e
      cases e
      cases ra with
      | cons r t =>
        cases t
        obtain ⟨p, us, e1, h5, r5⟩ := items_rel ok r h1
        subst e1
        refine ⟨p, us, rfl, h5, q φ H _ (Ext.refl _ _ _) ok ?_⟩
        rw [r5.len]
        exact .int _
  · cases e⟩
/-- the type's name -/
def tyD (S : Sto) : D → Option String
  | .non => some "NoneType"
  | .bl _ => some "bool"
  | .int _ => some "int"
  | .str _ => some "str"
  | .tup _ => some "tuple"
  | .fro _ => some "list"
  | .ref i => match S[i]? with
    | some (.lst _) => some "list"
    | some (.dct _) => some "dict"
    | none => none
  | .ty _ => none
theorem ty_rel {φ : Nat → Addr} {S : Sto} {H : Hp} {v : V} {d : D} {n : String} (ok : Ok X.K φ S H) (r : Rel X.K φ S.length H v d) (h : tyD S d = some n) : TyX X.K H v (.type n) := by
  cases r with
  | non => cases h; exact .base .non
  | bl b => cases h; exact .base (.bl b)
  | int b => cases h; exact .base (.int b)
  | str b => cases h; exact .base (.str b)
  | ty b => cases h
  | tup h1 r1 =>
    cases h
    rcases h1 with (h1 | ⟨o, h1⟩) | ⟨o, its, n, h1, h2, _⟩
    · exact .base (.tup h1)
    · exact .fTuple h1
    · exact .kTuple h1 h2
  | fro h1 r1 =>
    cases h
    rcases h1.sq with (h1 | ⟨o, h1⟩) | ⟨o, its, n, h1, h2, _⟩
    · exact .base (.lst h1)
    · exact .base (.frz h1)
    · exact .kList h1 h2
  | @ref i hi =>
    unfold tyD at h
    dsimp only at h
    obtain ⟨ho, e, ro⟩ := ok.obj i _ (List.getElem?_eq_getElem hi)
    rw [List.getElem?_eq_getElem hi] at h
    generalize S[i] = o at h ro
    cases ro with
    | lst _ => cases h; exact .base (.lst e)
    | dct _ _ => cases h; exact .base (.dT e)
/-- isinstance(x, T) -/
def gIsi : GN := fun as S => match as with
  | [a, .ty T] => (tyD S a).bind fun n => (kitB n T).map fun b => (.bl b, S)
  | _ => none
theorem callS_isi : CallS X (.builtin "isinstance") gIsi := ⟨_, call_isi, fun φ S H xs as c S' ok ra e Q q => by
  unfold gIsi at e
  split at e
  · rename_i a T
    cases h1 : tyD S a with
    | none => rw [h1] at e; cases e
    | some n =>
      rw [h1] at e
      cases h2 : kitB n T with
      | none => simp only [Option.bind_some, h2] at e; cases e
      | some b =>
        simp only [Option.bind_some, h2] at e
        cases e
        cases ra with
        | cons r t =>
          cases t with
          | cons r2 t2 =>
            cases r2
            cases t2
            exact ⟨_, _, _, _, b, rfl, .ty T, ty_rel ok r h1, kit_ty h2, q φ H _ (Ext.refl _ _ _) ok (.bl b)⟩
  · cases e⟩
/-- tuple(x), list(x) of a list or a tuple -/
def gTupOf : GN := fun as S => match as with
  | [a] => (itemsOf S a).map fun xs => (.tup xs, S)
  | _ => none
theorem callS_tuple : CallS X (.type "tuple") gTupOf := ⟨_, call_tuple_of, fun φ S H xs as c S' ok ra e Q q => by
  unfold gTupOf at e
  split at e
  · rename_i a
    cases h1 : itemsOf S a with
    | none => rw [h1] at e; cases e
    | some ds =>
      rw [h1] at e
      cases e
      cases ra with
      | cons r t =>
        cases t
        obtain ⟨p, us, e1, h5, r5⟩ := items_rel ok r h1
        subst e1
        refine ⟨p, us, rfl, ?_⟩
        rcases h5 with h5 | h5
        · exact .inl ⟨h5, fun l hl => q φ _ _ (ext_imm hl) (ok.imm hl) (.tup (SqT.of upd_same) (r5.mono ok (ext_imm hl)))⟩
        · exact .inr ⟨h5, q φ H _ (Ext.refl _ _ _) ok (.tup h5 r5)⟩
  · cases e⟩
def gLstOf : GN := fun as S => match as with
  | [a] => (itemsOf S a).map fun xs => (.ref S.length, S ++ [.lst xs])
  | _ => none
theorem rel_new {K : PySem.W.Frag} {φ : Nat → Addr} {S : Sto} {H : Hp} {p : Addr} {o : O} : Rel K (nxt φ S.length p) (S ++ [o]).length H (.ref p) (.ref S.length) := by
  rw [List.length_append, List.length_singleton]
  have := @Rel.ref K (nxt φ S.length p) (S.length + 1) H S.length (Nat.lt_succ_self _)
  rw [nxt_new] at this
  exact this
theorem ext_new' {φ : Nat → Addr} {S : Sto} {H : Hp} {p : Addr} {ho : HO} {o : O} (hp : H p = none) : Ext φ S.length H (nxt φ S.length p) (S ++ [o]).length (upd H p ho) := by
  rw [List.length_append, List.length_singleton]
  exact ext_new hp
theorem callS_list : CallS X (.type "list") gLstOf := ⟨_, call_list_of, fun φ S H xs as c S' ok ra e Q q => by
  unfold gLstOf at e
  split at e
  · rename_i a
    cases h1 : itemsOf S a with
    | none => rw [h1] at e; cases e
    | some ds =>
      rw [h1] at e
      cases e
      cases ra with
      | cons r t =>
        cases t
        obtain ⟨p, us, e1, h5, r5⟩ := items_rel ok r h1
        subst e1
        refine ⟨p, us, rfl, h5, fun l hl => q _ _ _ (ext_new' hl) (ok.new hl (.lst r5)) rel_new⟩
  · cases e⟩

/-! ### calls of defs -/
/-- a def's promise: F of the values -/
def spF (K : PySem.W.Frag) (ec : Str → Value) (n : Nat) (F : List D → Sto → Option (R D)) : Sp := fun vs H Q E => ∃ (φ : Nat → Addr) (S : Sto) (ds : List D), Ok K φ S H ∧ Rels K φ S.length H vs ds ∧ vs.length = n ∧ ∃ r, F ds S = some r ∧ KV K ec (Rel K) (fun cls d _ H => E cls d H) φ S.length [] H Q r
def mCall (F : List D → Sto → Option (R D)) (ms : M (List D)) : M D := mB ms fun as _ S => F as S
theorem x_call {x : Str} {p pos : Pos} {e : Expr} {es : List Expr} {ms : M (List D)} {k n : Nat} {f : Addr} {fd : FuncData} {ps : List Str} {F : List D → Sto → Option (R D)} (tk : Takes X W)
    (G : FnOk X.prog X.w X.K X.mg X.base (L2.CX X.prog X.w) k f fd ps (spF X.K ec n F)) (hr : Room k X.A) (hm : X.mg x = some (.ref f)) (hk : PySem.W.keepIn X.K (.ref f) = true) (hb : Binds X.K fd ps [])
    (ha : XA X ec W (e :: es) ms) (hl : ps.length = n := by rfl) (hn : (e :: es).length = n := by rfl) (hg : Gl X x := by rfl) (hdb : (x == ("__debug__" : Str)) = false := by decide) (he : starEach (e :: es) X.env = (false, eval e X.env) :: starEach es X.env := by rfl) (hpl : (backTo pos (starEach es X.env)).any (·.1) = false := by rfl)
    (hms : ∀ ρ S ds S', ms ρ S = some (.val ds S') → ds.length = n) : XE X ec W (.Call (.Name x p) (e :: es) [] pos) (mCall F ms) := by
  refine imE (pe_callSD (E := fun σ cls d H => W cls d σ H) (dvs := []) G hr hg hm hk hb .nil (fun σ => passAt tk σ) ha hdb he hpl) fun σ H Q h => ?_
  obtain ⟨φ, S, ρ, c⟩ := Cf.start h
  obtain ⟨r0, e0, q0⟩ := c.run
  unfold mCall mB at e0
  refine ⟨φ, S, ρ, c.ok, c.env, ?_⟩
  cases h1 : ms ρ S with
  | none => rw [h1] at e0; cases e0
  | some z =>
    rw [h1] at e0
    refine ⟨z, rfl, ?_⟩
    cases z with
    | exc c' S1 => cases e0; exact q0
    | val as S1 =>
      have e0 : F as S1 = some r0 := e0
      intro φ' H' b ex ok rb
      refine ⟨φ', S1, as, ok, by rw [List.append_nil]; exact rb, by rw [List.append_nil, rb.len]; exact hms ρ S as S1 h1, r0, e0, ?_⟩
      cases r0 with
      | val a S2 => exact fun φ2 H2 b2 ex2 => q0 φ2 H2 b2 (ex.trans ex2)
      | exc c2 S2 => exact fun φ2 H2 ex2 => q0 φ2 H2 (ex.trans ex2)
theorem mNil_len {ρ : Env} {S S' : Sto} {ds : List D} (h : mNil ρ S = some (.val ds S')) : ds.length = 0 := by cases h; rfl
theorem mCons_len {n : Nat} {ma : M D} {mr : M (List D)} (hr : ∀ ρ S ds S', mr ρ S = some (.val ds S') → ds.length = n) : ∀ ρ S ds S', mCons ma mr ρ S = some (.val ds S') → ds.length = n + 1 := fun ρ S ds S' h => by
  unfold mCons mB at h
  split at h
  · cases h
  · cases h
  · dsimp only at h
    split at h
    · cases h
    · cases h
    · rename_i e1
      cases h
      rw [List.length_cons, hr _ _ _ _ e1]
end Rf
namespace Rf
open PySem PySem.Spec PyProof.Rows L2

variable {X : Cx} {ec : Str → Value} {W : WX}
/-! ### statements -/
inductive RS where
  | nx (ρ : Env) (S : Sto) | ret (d : D) (S : Sto) | brk (ρ : Env) (S : Sto) | cnt (ρ : Env) (S : Sto) | exc (c : Str) (ρ : Env) (S : Sto)
abbrev MS := Env → Sto → Option RS
section
variable (K : PySem.W.Frag) (ec : Str → Value)
def KS (W : WX) (φ : Nat → Addr) (n : Nat) (H : Hp) (D : Ends) : RS → Prop
  | .nx ρ S' => ∀ φ' H' σ', Ext φ n H φ' S'.length H' → Ok K φ' S' H' → RelE K φ' S'.length H' ρ σ' → D.nx σ' H'
  | .brk ρ S' => ∀ φ' H' σ', Ext φ n H φ' S'.length H' → Ok K φ' S' H' → RelE K φ' S'.length H' ρ σ' → D.bk σ' H'
  | .cnt ρ S' => ∀ φ' H' σ', Ext φ n H φ' S'.length H' → Ok K φ' S' H' → RelE K φ' S'.length H' ρ σ' → D.ct σ' H'
  | .ret d S' => ∀ φ' H' v, Ext φ n H φ' S'.length H' → Ok K φ' S' H' → Rel K φ' S'.length H' v d → D.rt v H'
  | .exc c ρ S' => ∀ φ' H' σ', Ext φ n H φ' S'.length H' → Ok K φ' S' H' → RelE K φ' S'.length H' ρ σ' → W (ec c) none σ' H'
def rdS (W : WX) (m : MS) : TS := fun D σ H => ∃ (φ : Nat → Addr) (S : Sto) (ρ : Env), Ok K φ S H ∧ RelE K φ S.length H ρ σ ∧ ∃ r, m ρ S = some r ∧ KS K ec W φ S.length H D r
end
section
variable {K : PySem.W.Frag}
theorem KS.ext {φ φ1 : Nat → Addr} {n n1 : Nat} {H H1 : Hp} {D : Ends} {r : RS} (e : Ext φ n H φ1 n1 H1) (h : KS K ec W φ n H D r) : KS K ec W φ1 n1 H1 D r := by
  cases r with
  | nx ρ S' => exact fun φ' H' σ' e' => h φ' H' σ' (e.trans e')
  | brk ρ S' => exact fun φ' H' σ' e' => h φ' H' σ' (e.trans e')
  | cnt ρ S' => exact fun φ' H' σ' e' => h φ' H' σ' (e.trans e')
  | ret d S' => exact fun φ' H' v e' => h φ' H' v (e.trans e')
  | exc c ρ S' => exact fun φ' H' σ' e' => h φ' H' σ' (e.trans e')
structure Cs (K : PySem.W.Frag) (ec : Str → Value) (W : WX) (C : (Nat → Addr) → Nat → Hp → Prop) (φ : Nat → Addr) (S : Sto) (ρ : Env) (σ : L2.St) (H : Hp) (D : Ends) (k : Sto → Option RS) : Prop where
  ok : Ok K φ S H
  env : RelE K φ S.length H ρ σ
  car : C φ S.length H
  run : ∃ r, k S = some r ∧ KS K ec W φ S.length H D r
def sB {α : Type} (m : M α) (k : α → MS) : MS := fun ρ S => match m ρ S with
  | none => none
  | some (.exc c S1) => some (.exc c ρ S1)
  | some (.val a S1) => k a ρ S1
variable {C : (Nat → Addr) → Nat → Hp → Prop} {φ : Nat → Addr} {S : Sto} {ρ : Env} {σ : L2.St} {H : Hp} {D : Ends}
theorem Cs.start {m : MS} (h : rdS K ec W m D σ H) : ∃ (φ : Nat → Addr) (S : Sto) (ρ : Env), Cs K ec W (fun _ _ _ => True) φ S ρ σ H D (m ρ) := by
  obtain ⟨φ, S, ρ, ok, env, r, e, q⟩ := h
  exact ⟨φ, S, ρ, ok, env, trivial, r, e, q⟩
theorem Cs.bind {γ δ : Type} {rel1 : RelT δ γ} (hC : MonoC K C) {m : M γ} {k : γ → MS} (c : Cs K ec W C φ S ρ σ H D (sB m k ρ)) :
    rd K ec rel1 W m σ H fun x H1 => ∃ (φ1 : Nat → Addr) (S1 : Sto) (a : γ), rel1 φ1 S1.length H1 x a ∧ Ext φ S.length H φ1 S1.length H1 ∧ Cs K ec W C φ1 S1 ρ σ H1 D (k a ρ) := by
  obtain ⟨r, e, q⟩ := c.run
  unfold sB at e
  split at e
  · cases e
  · rename_i c1 S1 e1
    cases e
    exact ⟨φ, S, ρ, c.ok, c.env, _, e1, fun φ' H' ex ok => q φ' H' σ ex ok (c.env.mono c.ok ex)⟩
  · rename_i a S1 e1
    exact ⟨φ, S, ρ, c.ok, c.env, _, e1, fun φ' H' b ex ok r1 => ⟨φ', S1, a, r1, ex, ok, c.env.mono c.ok ex, hC _ _ _ _ _ _ c.ok ex c.car, r, e, q.ext ex⟩⟩
theorem Cs.carry {C' : (Nat → Addr) → Nat → Hp → Prop} {k : Sto → Option RS} (c : Cs K ec W C φ S ρ σ H D k) (h : C' φ S.length H) : Cs K ec W C' φ S ρ σ H D k := ⟨c.ok, c.env, h, c.run⟩
theorem Cs.rest {m : MS} (c : Cs K ec W C φ S ρ σ H D (m ρ)) : rdS K ec W m D σ H :=
  let ⟨r, e, q⟩ := c.run
  ⟨φ, S, ρ, c.ok, c.env, r, e, q⟩
end
def XS (X : Cx) (ec : Str → Value) (W : WX) (st : Stmt) (m : MS) : Prop := PS X st (rdS X.K ec W m)
def XSs (X : Cx) (ec : Str → Value) (W : WX) (st : List Stmt) (m : MS) : Prop := PSs X st (rdS X.K ec W m)
theorem imS {st : Stmt} {t t' : TS} (h : PS X st t) (i : ∀ D σ H, t' D σ H → t D σ H) : PS X st t' := ⟨fun pins s σ H D I q => h.run pins s σ H D I (i D σ H q)⟩
theorem imSs {st : List Stmt} {t t' : TS} (h : PSs X st t) (i : ∀ D σ H, t' D σ H → t D σ H) : PSs X st t' := ⟨fun pins s σ H D I q => h.run pins s σ H D I (i D σ H q)⟩

def sNil : MS := fun ρ S => some (.nx ρ S)
def sSeq (a b : MS) : MS := fun ρ S => match a ρ S with
  | some (.nx ρ' S') => b ρ' S'
  | r => r
theorem xs_nil : XSs X ec W [] sNil := imSs pss_nil fun D σ H h => by
  obtain ⟨φ, S, ρ, ok, env, r, e, q⟩ := h
  cases e
  exact q φ H σ (Ext.refl _ _ _) ok env
theorem xs_one {st : Stmt} {m : MS} (h : XS X ec W st m) : XSs X ec W [st] m := pss_one h
theorem xs_cons {st : Stmt} {rest : List Stmt} {a b : MS} (h1 : XS X ec W st a) (h2 : XSs X ec W rest b) : XSs X ec W (st :: rest) (sSeq a b) := imSs (pss_cons h1 h2) fun D σ H h => by
  obtain ⟨φ, S, ρ, ok, env, r, e, q⟩ := h
  unfold sSeq at e
  split at e
  · rename_i ρ' S' e1
    exact ⟨φ, S, ρ, ok, env, _, e1, fun φ' H' σ' ex ok' env' => ⟨φ', S', ρ', ok', env', r, e, q.ext ex⟩⟩
  · rename_i r1 hne
    refine ⟨φ, S, ρ, ok, env, r, e, ?_⟩
    cases r with
    | nx ρ' S' => exact absurd e (hne ρ' S')
    | _ => exact q
def sPass : MS := sNil
theorem x_pass {pos : Pos} : XS X ec W (.Pass pos) sNil := imS ps_pass fun D σ H h => by
  obtain ⟨φ, S, ρ, ok, env, r, e, q⟩ := h
  cases e
  exact q φ H σ (Ext.refl _ _ _) ok env
def sBrk : MS := fun ρ S => some (.brk ρ S)
theorem x_break {pos : Pos} : XS X ec W (.Break pos) sBrk := imS ps_break fun D σ H h => by
  obtain ⟨φ, S, ρ, ok, env, r, e, q⟩ := h
  cases e
  exact q φ H σ (Ext.refl _ _ _) ok env
def sCnt : MS := fun ρ S => some (.cnt ρ S)
theorem x_cont {pos : Pos} : XS X ec W (.Continue pos) sCnt := imS ps_continue fun D σ H h => by
  obtain ⟨φ, S, ρ, ok, env, r, e, q⟩ := h
  cases e
  exact q φ H σ (Ext.refl _ _ _) ok env
def sEx (m : M D) : MS := sB m fun _ ρ S => some (.nx ρ S)
theorem x_ex {e : Expr} {m : M D} {pos : Pos} (h : XE X ec W e m) (hs : swapsWith e none pos.line X.env = pure false := by rfl) : XS X ec W (.Expr e pos) (sEx m) := imS (ps_expr h hs) fun D σ H h => by
  obtain ⟨φ, S, ρ, c⟩ := Cs.start h
  refine rd_imp (c.bind (rel1 := Rel X.K) monoC_true) fun x H1 ⟨φ1, S1, a, ra, ex, c1⟩ => ?_
  obtain ⟨r, e, q⟩ := c1.run
  cases e
  exact q φ1 H1 σ (Ext.refl _ _ _) c1.ok c1.env
def sRet (m : M D) : MS := sB m fun d _ S => some (.ret d S)
theorem x_ret {e : Expr} {m : M D} {pos : Pos} (h : XE X ec W e m) : XS X ec W (.Return (some e) pos) (sRet m) := imS (ps_ret h) fun D σ H h => by
  obtain ⟨φ, S, ρ, c⟩ := Cs.start h
  refine rd_imp (c.bind (rel1 := Rel X.K) monoC_true) fun x H1 ⟨φ1, S1, a, ra, ex, c1⟩ => ?_
  obtain ⟨r, e, q⟩ := c1.run
  cases e
  exact q φ1 H1 x (Ext.refl _ _ _) c1.ok ra
def sRetN : MS := fun _ S => some (.ret .non S)
theorem x_retN {pos : Pos} : XS X ec W (.Return none pos) sRetN := imS ps_retN fun D σ H h => by
  obtain ⟨φ, S, ρ, ok, env, r, e, q⟩ := h
  cases e
  exact q φ H .non (Ext.refl _ _ _) ok .non
def sIf (c : M Bool) (a b : MS) : MS := sB c fun k => match k with
  | true => a
  | false => b
theorem x_if {c : Expr} {a b : List Stmt} {mc : M Bool} {ma mb : MS} {pos : Pos} (hc : XT X ec W c mc) (ha : XSs X ec W a ma) (hb : XSs X ec W b mb) : XS X ec W (.If c a b pos) (sIf mc ma mb) := imS (ps_if hc ha hb) fun D σ H h => by
  obtain ⟨φ, S, ρ, c⟩ := Cs.start h
  refine rd_imp (c.bind (rel1 := RelB) monoC_true) fun x H1 ⟨φ1, S1, a, ra, ex, c1⟩ => ?_
  cases ra
  cases x with
  | true => exact iteT c1.rest
  | false => exact iteF c1.rest
def sSet (i : Nat) (m : M D) : MS := sB m fun d ρ S => some (.nx (ρ.set i (some d)) S)
theorem x_set {x : Str} {e : Expr} {m : M D} {pos pos' : Pos} (i : Nat) (hN : X.N.Nodup) (h : XE X ec W e m) (hi : X.N[i]? = some x := by rfl) (hx : Loc X.env.scope x := by first | exact Or.inl rfl | exact Or.inr rfl) (hs : swapsWith e (some (.Name x pos')) pos.line X.env = pure false := by rfl) (hf : X.fn x = true ∨ X.env.scope.names.lookup x = some .local := by first | exact .inl rfl | exact .inr rfl | assumption) :
    XS X ec W (.Assign [.Name x pos'] e pos) (sSet i m) := imS (ps_set hN hi hx h hs hf) fun D σ H h => by
  obtain ⟨φ, S, ρ, c⟩ := Cs.start h
  refine rd_imp (c.bind (rel1 := Rel X.K) monoC_true) fun x H1 ⟨φ1, S1, a, ra, ex, c1⟩ => ?_
  obtain ⟨r, e, q⟩ := c1.run
  cases e
  exact q φ1 H1 _ (Ext.refl _ _ _) c1.ok (c1.env.set i ra)

/-! ### targets -/
abbrev Tgt := D → Env → Sto → Option Env
abbrev Tgts := List D → Env → Sto → Option Env
def TgS (K : PySem.W.Frag) (g : TG) (t : Tgt) (vs : List Nat) : Prop := ∀ (φ : Nat → Addr) (S : Sto) (H : Hp) (σ : L2.St) (ρ : Env) (v : V) (d : D) (ρ' : Env), Ok K φ S H → RelE K φ S.length H ρ σ → Rel K φ S.length H v d → t d ρ S = some ρ' →
  ∀ Q : L2.St → Hp → Prop, (∀ σ', RelE K φ S.length H ρ' σ' → wipe σ' vs = wipe σ vs → Q σ' H) → g v σ H Q
def TgsS (K : PySem.W.Frag) (g : TGs) (t : Tgts) (vs : List Nat) : Prop := ∀ (φ : Nat → Addr) (S : Sto) (H : Hp) (σ : L2.St) (ρ : Env) (v : List V) (d : List D) (ρ' : Env), Ok K φ S H → RelE K φ S.length H ρ σ → Rels K φ S.length H v d → t d ρ S = some ρ' →
  ∀ Q : L2.St → Hp → Prop, (∀ σ', RelE K φ S.length H ρ' σ' → wipe σ' vs = wipe σ vs → Q σ' H) → g v σ H Q
theorem wipe_set {v : Option V} : ∀ {σ : L2.St} {vs : List Nat} {i : Nat}, i ∈ vs → wipe (σ.set i v) vs = wipe σ vs
  | σ, w :: vs, i, h => by
    unfold wipe
    by_cases c : i ∈ vs
    · rw [wipe_set c]
    · have e : i = w := by
        rcases List.mem_cons.mp h with h | h
        · exact h
        · exact absurd h c
      subst e
      have z : ∀ (vs : List Nat) (σ : L2.St), i ∉ vs → wipe (σ.set i v) vs = (wipe σ vs).set i v := by
        intro vs
        induction vs with
        | nil => intro σ _; rfl
        | cons a l ih =>
          intro σ hn
          unfold wipe
          rw [ih σ fun q => hn (List.mem_cons_of_mem _ q)]
          exact List.set_comm _ _ (fun q => hn (by rw [q]; exact List.mem_cons_self))
      rw [z vs σ c, List.set_set]
def tN (i : Nat) : Tgt := fun d ρ _ => some (ρ.set i (some d))
theorem tgs_name {K : PySem.W.Frag} {i : Nat} {vs : List Nat} (h : i ∈ vs := by decide) : TgS K (gName i) (tN i) vs := fun φ S H σ ρ v d ρ' ok env r e Q q => by
  cases e
  exact q _ (env.set i r) (wipe_set h)
def tNil' : Tgts := fun ds ρ _ => match ds with
  | [] => some ρ
  | _ => none
def tCons' (t : Tgt) (ts : Tgts) : Tgts := fun ds ρ S => match ds with
  | d :: ds => (t d ρ S).bind fun ρ1 => ts ds ρ1 S
  | [] => none
theorem tgs_nil {K : PySem.W.Frag} {vs : List Nat} : TgsS K gNil tNil' vs := fun φ S H σ ρ v d ρ' ok env r e Q q => by
  cases r with
  | nil => cases e; exact ⟨rfl, q σ env rfl⟩
  | cons _ _ => cases e
theorem tgs_cons {K : PySem.W.Frag} {vs : List Nat} {g : TG} {gs : TGs} {t : Tgt} {ts : Tgts} (h : TgS K g t vs) (h' : TgsS K gs ts vs) : TgsS K (gCons g gs) (tCons' t ts) vs := fun φ S H σ ρ v d ρ' ok env r e Q q => by
  cases r with
  | nil => cases e
  | cons r rs =>
    rename_i v vs' d ds
    unfold tCons' at e
    dsimp only at e
    cases e1 : t d ρ S with
    | none => rw [e1] at e; cases e
    | some ρ1 =>
      rw [e1] at e
      refine ⟨_, _, rfl, h φ S H σ ρ v d ρ1 ok env r e1 _ fun σ1 env1 w1 => h' φ S H σ1 ρ1 _ ds ρ' ok env1 rs e _ fun σ2 env2 w2 => q σ2 env2 (w2.trans w1)⟩
def tTp (n : Nat) (ts : Tgts) : Tgt := fun d ρ S => match d with
  | .tup ds => if ds.length = n then ts ds ρ S else none
  | _ => none
theorem tgs_tup {K : PySem.W.Frag} {vs : List Nat} {gs : TGs} {ts : Tgts} {n : Nat} (h : TgsS K gs ts vs) : TgS K (gTup K n gs) (tTp n ts) vs := fun φ S H σ ρ v d ρ' ok env r e Q q => by
  cases r with
  | tup h1 r1 =>
    rename_i a xs ds
    unfold tTp at e
    dsimp only at e
    split at e
    · rename_i hl
      exact ⟨a, xs, rfl, h1, by rw [r1.len]; exact hl, h φ S H σ ρ xs ds ρ' ok env r1 e Q q⟩
    · cases e
  | _ => cases e
def sAsg (t : Tgt) (m : M D) : MS := sB m fun d ρ S => (t d ρ S).map fun ρ' => .nx ρ' S
theorem x_asg {tg e : Expr} {m : M D} {pos : Pos} {g : TG} {t : Tgt} {vs : List Nat} (h : XE X ec W e m) (hg : PG X tg g) (ht : TgS X.K g t vs) (hs : swapsWithSole [tg] e pos.line X.env = pure false := by rfl) (hw : swappedStores [tg] e X.env = pure none := by rfl)
    (h1 : (assignEach [tg] X.env).map (·.2) = [assign tg X.env] := by rfl) : XS X ec W (.Assign [tg] e pos) (sAsg t m) := imS (ps_asg h hg hs hw h1) fun D σ H h => by
  obtain ⟨φ, S, ρ, c⟩ := Cs.start h
  refine rd_imp (c.bind (rel1 := Rel X.K) monoC_true) fun x H1 ⟨φ1, S1, a, ra, ex, c1⟩ => ?_
  obtain ⟨r, e, q⟩ := c1.run
  cases e1 : t a ρ S1 with
  | none => rw [e1] at e; cases e
  | some ρ' =>
    rw [e1] at e
    cases e
    exact ht φ1 S1 H1 σ ρ x a ρ' c1.ok c1.env ra e1 _ fun σ' env' _ => q φ1 H1 σ' (Ext.refl _ _ _) c1.ok env'
/-- a, b = x, y -/
def sPar (i j : Nat) (ms : M (List D)) : MS := sB ms fun ds ρ S => match ds with
  | [a, b] => some (.nx ((ρ.set i (some a)).set j (some b)) S)
  | _ => none
theorem x_par {i j : Nat} {x y : Str} {a b : Expr} {ms : M (List D)} {px py pt : Pos} {kt k2 pt2} {pos : Pos} (hc : X.calm = true) (hN : X.N.Nodup) (ha : XA X ec W [a, b] ms) (hi : X.N[i]? = some x := by rfl) (hj : X.N[j]? = some y := by rfl) (hij : i ≠ j := by decide)
    (hx : X.env.scope.names.lookup x = some .local := by rfl) (hy : X.env.scope.names.lookup y = some .local := by rfl)
    (hw : swappedStores [.Tuple [.Name x px, .Name y py] kt pt] (.Tuple [a, b] k2 pt2) X.env = pure (some [x, y]) := by rfl) : XS X ec W (.Assign [.Tuple [.Name x px, .Name y py] kt pt] (.Tuple [a, b] k2 pt2) pos) (sPar i j ms) :=
  imS (ps_par hc hN hi hj hij hx hy ha hw) fun D σ H h => by
  obtain ⟨φ, S, ρ, c⟩ := Cs.start h
  refine rd_imp (c.bind (rel1 := Rels X.K) monoC_true) fun xs H1 ⟨φ1, S1, as, ra, ex, c1⟩ => ?_
  obtain ⟨r, e, q⟩ := c1.run
  cases ra with
  | nil => cases e
  | cons r1 t1 =>
    cases t1 with
    | nil => cases e
    | cons r2 t2 =>
      cases t2 with
      | nil => cases e; exact ⟨_, _, rfl, q φ1 H1 _ (Ext.refl _ _ _) c1.ok ((c1.env.set i r1).set j r2)⟩
      | cons _ _ => cases e

/-! ### while -/
def loopW (c : M Bool) (b : MS) : Nat → MS
  | 0 => fun _ _ => none
  | n + 1 => fun ρ S => match c ρ S with
    | none => none
    | some (.exc x S1) => some (.exc x ρ S1)
    | some (.val false S1) => some (.nx ρ S1)
    | some (.val true S1) => match b ρ S1 with
      | some (.nx ρ' S') => loopW c b n ρ' S'
      | some (.cnt ρ' S') => loopW c b n ρ' S'
      | some (.brk ρ' S') => some (.nx ρ' S')
      | r => r
@[irreducible] def fuel : Nat := 2 ^ 3000000
theorem lt_fuel {n k : Nat} (h : n < 2 ^ k) (hk : k ≤ 3000000) : n < fuel := by
  unfold fuel
  exact Nat.lt_of_lt_of_le h (Nat.pow_le_pow_right (by decide) hk)
def sWhile (c : M Bool) (b : MS) : MS := loopW c b fuel
theorem x_while {c : Expr} {body : List Stmt} {mc : M Bool} {mb : MS} {pos : Pos} (hp : PassesOwn (model X.prog X.w) X.A X.env X.xe) (hc : XT X ec W c mc) (hb : XSs X ec W body mb) : XS X ec W (.While c body [] pos) (sWhile mc mb) := imS (ps_while hp hc hb) fun D σ H h => by
  obtain ⟨φ, S, ρ, ok, env, r, e, q⟩ := h
  refine ⟨fun m σ H => ∃ φ S ρ r, Ok X.K φ S H ∧ RelE X.K φ S.length H ρ σ ∧ loopW mc mb m ρ S = some r ∧ KS X.K ec W φ S.length H D r, ⟨fuel, φ, S, ρ, r, ok, env, e, q⟩, fun m σ H h => ?_⟩
  obtain ⟨φ, S, ρ, r, ok, env, e, q⟩ := h
  cases m with
  | zero => cases e
  | succ m =>
    unfold loopW at e
    split at e
    · cases e
    · rename_i x S1 e1
      cases e
      exact ⟨φ, S, ρ, ok, env, _, e1, fun φ' H' ex ok' => q φ' H' σ ex ok' (env.mono ok ex)⟩
    · rename_i S1 e1
      cases e
      refine ⟨φ, S, ρ, ok, env, _, e1, fun φ' H' b ex ok' rb => ?_⟩
      cases rb
      exact iteF (q φ' H' σ ex ok' (env.mono ok ex))
    · rename_i S1 e1
      refine ⟨φ, S, ρ, ok, env, _, e1, fun φ' H' b ex ok' rb => ?_⟩
      cases rb
      refine iteT ⟨fun σ H => ∃ φ S ρ r, Ok X.K φ S H ∧ RelE X.K φ S.length H ρ σ ∧ loopW mc mb m ρ S = some r ∧ KS X.K ec W φ S.length H D r, fun σ' H' h => ⟨m, Nat.lt_succ_self _, h⟩, φ', S1, ρ, ok', env.mono ok ex, ?_⟩
      split at e
      · rename_i ρ' S' e2
        exact ⟨_, e2, fun φ2 H2 σ2 ex2 ok2 env2 => ⟨φ2, S', ρ', r, ok2, env2, e, q.ext (ex.trans ex2)⟩⟩
      · rename_i ρ' S' e2
        exact ⟨_, e2, fun φ2 H2 σ2 ex2 ok2 env2 => ⟨φ2, S', ρ', r, ok2, env2, e, q.ext (ex.trans ex2)⟩⟩
      · rename_i ρ' S' e2
        cases e
        exact ⟨_, e2, fun φ2 H2 σ2 ex2 ok2 env2 => q φ2 H2 σ2 (ex.trans ex2) ok2 env2⟩
      · rename_i h1 h2 h3
        refine ⟨r, e, ?_⟩
        cases r with
        | nx ρ' S' => exact absurd e (h1 ρ' S')
        | cnt ρ' S' => exact absurd e (h2 ρ' S')
        | brk ρ' S' => exact absurd e (h3 ρ' S')
        | ret d S' => exact KS.ext ex q
        | exc c ρ' S' => exact KS.ext ex q

/-! ### what is walked -/
abbrev Sq := Nat → Sto → Option (Option D)
def SeqR (K : PySem.W.Frag) : RelT It Sq := fun φ n H J sq => ∀ φ' S' H', Ok K φ' S' H' → Ext φ n H φ' S'.length H' → ∀ i,
  (∀ d, sq i S' = some (some d) → J.go i H' ∧ ∀ x H'', J.yld i H' x H'' → Ext φ' S'.length H' φ' S'.length H'' ∧ Ok K φ' S' H'' ∧ Rel K φ' S'.length H'' x d) ∧ (sq i S' = some none → J.stop i H')
instance {K : PySem.W.Frag} : Mono K (SeqR K) := ⟨fun k e r φ' S' H' ok ex => r φ' S' H' ok (e.trans ex)⟩
def XI (X : Cx) (ec : Str → Value) (W : WX) (tg iter : Expr) (m : M Sq) : Prop := PI X tg iter (rd X.K ec (SeqR X.K) W m)
theorem imI {tg iter : Expr} {t t' : TI} (h : PI X tg iter t) (i : ∀ σ H Q, t' σ H Q → t σ H Q) : PI X tg iter t' := ⟨fun pins s σ H Q I q => h.run pins s σ H Q I (i σ H Q q)⟩
theorem orI {tg iter : Expr} {t t' : TI} (h : PI X tg iter t) (h' : PI X tg iter t') : PI X tg iter (fun σ H Q => t σ H Q ∨ t' σ H Q) := ⟨fun pins s σ H Q I q => q.elim (h.run pins s σ H Q I) (h'.run pins s σ H Q I)⟩
def sqIt (xs : List D) : Sq := fun i _ => some xs[i]?
def sqRef (id : Nat) : Sq := fun i S => match S[id]? with
  | some (.lst xs) => some xs[i]?
  | _ => none
def sqOf (S : Sto) : D → Option Sq
  | .tup xs => some (sqIt xs)
  | .fro xs => some (sqIt xs)
  | .ref i => match S[i]? with
    | some (.lst _) => some (sqRef i)
    | _ => none
  | _ => none
def mSeq (m : M D) : M Sq := mB m fun d _ S => match sqOf S d with
  | some q => some (.val q S)
  | none => none
end Rf
namespace Rf
open PySem PySem.Spec PyProof.Rows L2

variable {X : Cx} {ec : Str → Value} {W : WX}
theorem seqR_tup {K : PySem.W.Frag} {φ : Nat → Addr} {S : Sto} {H : Hp} {a : Addr} {xs : List V} {ds : List D} (k : Ok K φ S H) (h : SqT K H a xs) (r : Rels K φ S.length H xs ds) : SeqR K φ S.length H (Itt K a) (sqIt ds) := fun φ' S' H' ok ex i => by
  have h' := k.rdT ex h
  have r' := r.mono k ex
  refine ⟨fun d e => ?_, fun e => ?_⟩
  · have e : ds[i]? = some d := by unfold sqIt at e; exact Option.some.inj e
    obtain ⟨v, hv, rv⟩ := r'.get i e
    refine ⟨⟨xs, v, h', hv⟩, fun x H'' y => ?_⟩
    obtain ⟨eH, y⟩ := y
    subst eH
    have := y xs h'
    rw [hv] at this
    cases this
    exact ⟨Ext.refl _ _ _, ok, rv⟩
  · have e : ds[i]? = none := by unfold sqIt at e; exact Option.some.inj e
    exact ⟨xs, h', by rw [r'.len]; exact List.getElem?_eq_none_iff.mp e⟩
theorem seqR_fro {K : PySem.W.Frag} {φ : Nat → Addr} {S : Sto} {H : Hp} {a : Addr} {xs : List V} {ds : List D} (k : Ok K φ S H) (h : Fro K φ S.length H a xs) (r : Rels K φ S.length H xs ds) : SeqR K φ S.length H (Itl K a) (sqIt ds) := fun φ' S' H' ok ex i => by
  have h' := (k.rdF ex h).sq
  have r' := r.mono k ex
  refine ⟨fun d e => ?_, fun e => ?_⟩
  · have e : ds[i]? = some d := by unfold sqIt at e; exact Option.some.inj e
    obtain ⟨v, hv, rv⟩ := r'.get i e
    refine ⟨⟨xs, v, h', hv⟩, fun x H'' y => ?_⟩
    obtain ⟨eH, y⟩ := y
    subst eH
    have := y xs h'
    rw [hv] at this
    cases this
    exact ⟨Ext.refl _ _ _, ok, rv⟩
  · have e : ds[i]? = none := by unfold sqIt at e; exact Option.some.inj e
    exact ⟨xs, h', by rw [r'.len]; exact List.getElem?_eq_none_iff.mp e⟩
theorem seqR_ref {K : PySem.W.Frag} {φ : Nat → Addr} {S : Sto} {H : Hp} {j : Nat} (k : Ok K φ S H) (hj : j < S.length) : SeqR K φ S.length H (Itl K (φ j)) (sqRef j) := fun φ' S' H' ok ex i => by
  have ea : φ' j = φ j := ex.same j hj
  refine ⟨fun d e => ?_, fun e => ?_⟩
  · unfold sqRef at e
    split at e
    · rename_i ds hx
      have e : ds[i]? = some d := Option.some.inj e
      obtain ⟨xs, h1, r1⟩ := ok.lst hx
      obtain ⟨v, hv, rv⟩ := r1.get i e
      rw [ea] at h1
      refine ⟨⟨xs, v, SqL.of h1, hv⟩, fun x H'' y => ?_⟩
      obtain ⟨eH, y⟩ := y
      subst eH
      have := y xs (SqL.of h1)
      rw [hv] at this
      cases this
      exact ⟨Ext.refl _ _ _, ok, rv⟩
    · cases e
  · unfold sqRef at e
    split at e
    · rename_i ds hx
      have e : ds[i]? = none := Option.some.inj e
      obtain ⟨xs, h1, r1⟩ := ok.lst hx
      rw [ea] at h1
      exact ⟨xs, SqL.of h1, by rw [r1.len]; exact List.getElem?_eq_none_iff.mp e⟩
    · cases e
/-- a list or a tuple -/
theorem xi_seq {tg e : Expr} {m : M D} (h : XE X ec W e m) : XI X ec W tg e (mSeq m) := imI (orI (pi_list h) (pi_tup h)) fun σ H Q h => by
  obtain ⟨φ, S, ρ, c⟩ := Cf.start h
  obtain ⟨r0, e0, q0⟩ := c.run
  unfold mSeq mB at e0
  cases hm : m ρ S with
  | none => rw [hm] at e0; cases e0
  | some z =>
    cases z with
    | exc x S1 =>
      rw [hm] at e0
      cases e0
      exact .inl ⟨φ, S, ρ, c.ok, c.env, _, hm, q0⟩
    | val d S1 =>
      rw [hm] at e0
      dsimp only at e0
      cases hq : sqOf S1 d with
      | none => rw [hq] at e0; cases e0
      | some sq =>
        rw [hq] at e0
        cases e0
        cases d with
        | tup ds =>
          refine .inr ⟨φ, S, ρ, c.ok, c.env, _, hm, fun φ' H' b ex ok rb => ?_⟩
          cases rb with
          | tup h1 r1 =>
            cases hq
            exact ⟨_, rfl, ⟨_, h1⟩, q0 φ' H' _ ex ok (seqR_tup ok h1 r1)⟩
        | fro ds =>
          refine .inl ⟨φ, S, ρ, c.ok, c.env, _, hm, fun φ' H' b ex ok rb => ?_⟩
          cases rb with
          | fro h1 r1 =>
            cases hq
            exact ⟨_, rfl, ⟨_, h1.sq⟩, q0 φ' H' _ ex ok (seqR_fro ok h1 r1)⟩
        | ref j =>
          unfold sqOf at hq
          dsimp only at hq
          split at hq
          · rename_i ds hl
            cases hq
            refine .inl ⟨φ, S, ρ, c.ok, c.env, _, hm, fun φ' H' b ex ok rb => ?_⟩
            cases rb with
            | ref hj =>
              obtain ⟨xs, h1, r1⟩ := ok.lst hl
              exact ⟨_, rfl, ⟨_, SqL.of h1⟩, q0 φ' H' _ ex ok (seqR_ref ok hj)⟩
          · cases hq
        | _ => cases hq

/-! ### ranges -/
def rngD (lo : Int) (n : Nat) : List D := (List.range n).map fun k => .int (lo + (k : Nat))
theorem rngD_get {lo : Int} {n i : Nat} {d : D} (h : (rngD lo n)[i]? = some d) : i < n ∧ d = .int (lo + (i : Nat)) := by
  unfold rngD at h
  rw [List.getElem?_map] at h
  by_cases c : i < n
  · rw [List.getElem?_range c] at h
    cases h
    exact ⟨c, rfl⟩
  · rw [List.getElem?_eq_none (by rw [List.length_range]; omega)] at h
    cases h
theorem rngD_none {lo : Int} {n i : Nat} (h : (rngD lo n)[i]? = none) : n ≤ i := by
  have := List.getElem?_eq_none_iff.mp h
  unfold rngD at this
  rw [List.length_map, List.length_range] at this
  exact this
theorem seqR_rng {K : PySem.W.Frag} {φ : Nat → Addr} {n : Nat} {H : Hp} {lo : Int} {m : Nat} : SeqR K φ n H (Itr lo m) (sqIt (rngD lo m)) := fun φ' S' H' ok ex i => by
  refine ⟨fun d e => ?_, fun e => ?_⟩
  · obtain ⟨h1, h2⟩ := rngD_get (show (rngD lo m)[i]? = some d from Option.some.inj e)
    refine ⟨h1, fun x H'' y => ?_⟩
    obtain ⟨eH, y⟩ := y
    subst eH
    subst y
    subst h2
    exact ⟨Ext.refl _ _ _, ok, .int _⟩
  · exact rngD_none (Option.some.inj e)
def rngOk (i : Int) : Bool := decide (-(2 ^ 62) ≤ i) && decide (i < 2 ^ 62)
theorem rngOk_of {i : Int} (h : rngOk i = true) : -(2 ^ 62) ≤ i ∧ i < 2 ^ 62 := by
  unfold rngOk at h
  rw [Bool.and_eq_true] at h
  exact ⟨of_decide_eq_true h.1, of_decide_eq_true h.2⟩
def mRng1 (ms : M (List D)) : M Sq := mB ms fun as _ S => match as with
  | [.int j] => if rngOk j = true then some (.val (sqIt (rngD 0 j.toNat)) S) else none
  | _ => none
theorem xi_rng1 {tg a : Expr} {ms : M (List D)} {p pos : Pos} (ha : XA X ec W [a] ms) (hm : X.mg "range" = none) (hg : Gl X "range" := by rfl) (hs : starEach [a] X.env = [(false, eval a X.env)] := by rfl) : XI X ec W tg (.Call (.Name "range" p) [a] [] pos) (mRng1 ms) := imI (pi_range1 hg hm ha hs) fun σ H Q h => by
  obtain ⟨φ, S, ρ, c⟩ := Cf.start h
  refine rd_imp (c.bind (rel1 := Rels X.K) monoC_true) fun xs H1 ⟨φ1, S1, as, ra, c1⟩ => ?_
  obtain ⟨r, e, q⟩ := c1.run
  split at e
  · split at e
    · rename_i j hj
      cases e
      cases ra with
      | cons r1 t1 =>
        cases r1
        cases t1
        obtain ⟨h1, h2⟩ := rngOk_of hj
        exact ⟨j, rfl, h1, h2, q φ1 H1 _ (Ext.refl _ _ _) c1.ok seqR_rng⟩
    · cases e
  · cases e
def mRng2 (ms : M (List D)) : M Sq := mB ms fun as _ S => match as with
  | [.int i, .int j] => if (rngOk i && rngOk j) = true then some (.val (sqIt (rngD i (j - i).toNat)) S) else none
  | _ => none
theorem xi_rng2 {tg a b : Expr} {ms : M (List D)} {p pos : Pos} (ha : XA X ec W [a, b] ms) (hm : X.mg "range" = none) (hg : Gl X "range" := by rfl) (hs : starEach [a, b] X.env = [(false, eval a X.env), (false, eval b X.env)] := by rfl) (hs2 : starEach [b] X.env = [(false, eval b X.env)] := by rfl) : XI X ec W tg (.Call (.Name "range" p) [a, b] [] pos) (mRng2 ms) := imI (pi_range2 hg hm ha hs hs2) fun σ H Q h => by
  obtain ⟨φ, S, ρ, c⟩ := Cf.start h
  refine rd_imp (c.bind (rel1 := Rels X.K) monoC_true) fun xs H1 ⟨φ1, S1, as, ra, c1⟩ => ?_
  obtain ⟨r, e, q⟩ := c1.run
  split at e
  · split at e
    · rename_i i j hj
      cases e
      cases ra with
      | cons r1 t1 =>
        cases r1
        cases t1 with
        | cons r2 t2 =>
          cases r2
          cases t2
          rw [Bool.and_eq_true] at hj
          obtain ⟨h1, h2⟩ := rngOk_of hj.1
          obtain ⟨h3, h4⟩ := rngOk_of hj.2
          exact ⟨i, j, rfl, ⟨h1, h2, h3, h4⟩, q φ1 H1 _ (Ext.refl _ _ _) c1.ok seqR_rng⟩
    · cases e
  · cases e
/-! from the end -/
def revD (lo : Int) (n : Nat) : List D := (List.range n).map fun k => .int (lo + (n : Nat) - 1 - (k : Nat))
theorem seqR_rev {K : PySem.W.Frag} {φ : Nat → Addr} {n : Nat} {H : Hp} {lo : Int} {m : Nat} : SeqR K φ n H (Itc (lo + (m : Nat) - 1) (-1) m) (sqIt (revD lo m)) := fun φ' S' H' ok ex i => by
  have hg : ∀ {d}, (revD lo m)[i]? = some d → i < m ∧ d = .int (lo + (m : Nat) - 1 + (i : Nat) * (-1)) := fun {d} h => by
    unfold revD at h
    rw [List.getElem?_map] at h
    by_cases c : i < m
    · rw [List.getElem?_range c] at h
      cases h
      refine ⟨c, ?_⟩
      have : lo + (m : Int) - 1 - (i : Int) = lo + (m : Int) - 1 + (i : Int) * (-1) := by omega
      show D.int (lo + (m : Int) - 1 - (i : Int)) = _
      rw [this]
    · rw [List.getElem?_eq_none (by rw [List.length_range]; omega)] at h
      cases h
  refine ⟨fun d e => ?_, fun e => ?_⟩
  · obtain ⟨h1, h2⟩ := hg (show (revD lo m)[i]? = some d from Option.some.inj e)
    refine ⟨h1, fun x H'' y => ?_⟩
    obtain ⟨eH, y⟩ := y
    subst eH
    subst y
    subst h2
    exact ⟨Ext.refl _ _ _, ok, .int _⟩
  · have := List.getElem?_eq_none_iff.mp (show (revD lo m)[i]? = none from Option.some.inj e)
    unfold revD at this
    rw [List.length_map, List.length_range] at this
    exact this
def mRev1 (m : M D) : M Sq := mB m fun a _ S => match a with
  | .int j => if rngOk j = true then some (.val (sqIt (revD 0 j.toNat)) S) else none
  | _ => none
theorem xi_rev1 {tg a : Expr} {m : M D} {p pos p' pos' : Pos} (ha : XE X ec W a m) (hm : X.mg "reversed" = none) (hm' : X.mg "range" = none) (hg : Gl X "reversed" := by rfl) (hg' : Gl X "range" := by rfl) (na : starEach [a] X.env = (false, eval a X.env) :: starEach [] X.env := by rfl)
    (hs : starEach [.Call (.Name "range" p') [a] [] pos'] X.env = (false, eval (.Call (.Name "range" p') [a] [] pos') X.env) :: starEach [] X.env := by rfl) : XI X ec W tg (.Call (.Name "reversed" p) [.Call (.Name "range" p') [a] [] pos'] [] pos) (mRev1 m) := imI (pi_revR hg hm (prg_1 hg' hm' ha na) hs) fun σ H Q h => by
  obtain ⟨φ, S, ρ, c⟩ := Cf.start h
  refine rd_imp (c.bind (rel1 := Rel X.K) monoC_true) fun x H1 ⟨φ1, S1, a, ra, c1⟩ => ?_
  obtain ⟨r, e, q⟩ := c1.run
  split at e
  · split at e
    · rename_i j hj
      cases e
      cases ra
      obtain ⟨h1, h2⟩ := rngOk_of hj
      refine ⟨j, rfl, by omega, by omega, h1, h2, ?_⟩
      have := q φ1 H1 _ (Ext.refl _ _ _) c1.ok (seqR_rev (lo := 0) (m := j.toNat))
      rw [show (j - 0).toNat = j.toNat by omega]
      exact this
    · cases e
  · cases e
def mRev2 (m m' : M D) : M Sq := mB m fun a => mB m' fun b _ S => match a, b with
  | .int i, .int j => if (rngOk i && rngOk j) = true then some (.val (sqIt (revD i (j - i).toNat)) S) else none
  | _, _ => none
theorem xi_rev2 {tg a b : Expr} {m m' : M D} {p pos p' pos' : Pos} (ha : XE X ec W a m) (hb : XE X ec W b m') (hm : X.mg "reversed" = none) (hm' : X.mg "range" = none) (hg : Gl X "reversed" := by rfl) (hg' : Gl X "range" := by rfl) (na : starEach [a, b] X.env = (false, eval a X.env) :: starEach [b] X.env := by rfl)
    (nb : starEach [b] X.env = (false, eval b X.env) :: starEach [] X.env := by rfl) (hp : (backTo pos' (starEach [b] X.env)).any (·.1) = false := by rfl)
    (hs : starEach [.Call (.Name "range" p') [a, b] [] pos'] X.env = (false, eval (.Call (.Name "range" p') [a, b] [] pos') X.env) :: starEach [] X.env := by rfl) : XI X ec W tg (.Call (.Name "reversed" p) [.Call (.Name "range" p') [a, b] [] pos'] [] pos) (mRev2 m m') := imI (pi_revR hg hm (prg_2 hg' hm' ha hb na nb hp) hs) fun σ H Q h => by
  obtain ⟨φ, S, ρ, c⟩ := Cf.start h
  refine rd_imp (c.bind (rel1 := Rel X.K) monoC_true) fun x H1 ⟨φ1, S1, a, ra, c1⟩ => ?_
  refine rd_imp ((c1.carry ra).bind (rel1 := Rel X.K) monoC_rel) fun y H2 ⟨φ2, S2, b, rb, c2⟩ => ?_
  obtain ⟨r, e, q⟩ := c2.run
  have ra := c2.car
  cases ra with
  | int i =>
    cases rb with
    | int j =>
      dsimp only at e
      split at e
      · rename_i hj
        cases e
        rw [Bool.and_eq_true] at hj
        obtain ⟨h1, h2⟩ := rngOk_of hj.1
        obtain ⟨h3, h4⟩ := rngOk_of hj.2
        exact ⟨i, j, rfl, rfl, h1, h2, h3, h4, q φ2 H2 _ (Ext.refl _ _ _) c2.ok seqR_rev⟩
      · cases e
    | _ => cases e
  | _ => cases e

/-! ### for -/
def loopQ (t : Tgt) (b : MS) (sq : Sq) : Nat → Nat → MS
  | 0, _ => fun _ _ => none
  | n + 1, i => fun ρ S => match sq i S with
    | none => none
    | some none => some (.nx ρ S)
    | some (some d) => match t d ρ S with
      | none => none
      | some ρ1 => match b ρ1 S with
        | some (.nx ρ' S') => loopQ t b sq n (i + 1) ρ' S'
        | some (.cnt ρ' S') => loopQ t b sq n (i + 1) ρ' S'
        | some (.brk ρ' S') => some (.nx ρ' S')
        | r => r
def sFor (t : Tgt) (it : M Sq) (b : MS) : MS := sB it fun sq => loopQ t b sq fuel 0
theorem x_for {tg iter : Expr} {body : List Stmt} {mi : M Sq} {mb : MS} {g : TG} {t : Tgt} {vs : List Nat} {pos : Pos} (hp : PassesOwn (model X.prog X.w) X.A X.env X.xe) (hc : X.calm = true) (hi : XI X ec W tg iter mi) (hg : PG X tg g) (ht : TgS X.K g t vs) (hb : XSs X ec W body mb)
    (hs : ∀ x, foldedSetIterable iter X.env x = pure x := by intro _; rfl) : XS X ec W (.For tg iter body [] pos) (sFor t mi mb) := imS (ps_for hp hc hi hg hb hs) fun D σ H h => by
  obtain ⟨φ, S, ρ, c⟩ := Cs.start h
  refine rd_imp (c.bind (rel1 := SeqR X.K) monoC_true) fun J H1 ⟨φ1, S1, sq, rJ, ex, c1⟩ => ?_
  refine ⟨fun i m σ H => ∃ φ S ρ r, Ok X.K φ S H ∧ RelE X.K φ S.length H ρ σ ∧ SeqR X.K φ S.length H J sq ∧ loopQ t mb sq m i ρ S = some r ∧ KS X.K ec W φ S.length H D r, ?_, ?_⟩
  · obtain ⟨r, e, q⟩ := c1.run
    exact ⟨fuel, φ1, S1, ρ, r, c1.ok, c1.env, rJ, e, q⟩
  · rintro i m σ H ⟨φ, S, ρ, r, ok, env, rJ, e, q⟩
    cases m with
    | zero => cases e
    | succ m =>
      unfold loopQ at e
      have RJ := rJ φ S H ok (Ext.refl _ _ _) i
      split at e
      · cases e
      · rename_i e1
        cases e
        exact .inl ⟨RJ.2 e1, q φ H σ (Ext.refl _ _ _) ok env⟩
      · rename_i d e1
        obtain ⟨go, yld⟩ := RJ.1 d e1
        refine .inr ⟨go, fun σ H => ∃ φ S ρ r, Ok X.K φ S H ∧ RelE X.K φ S.length H ρ σ ∧ SeqR X.K φ S.length H J sq ∧ loopQ t mb sq m (i + 1) ρ S = some r ∧ KS X.K ec W φ S.length H D r, fun σ' H' h => ⟨m, Nat.lt_succ_self _, h⟩, fun x H' y => ?_⟩
        obtain ⟨ex1, ok1, rx⟩ := yld x H' y
        split at e
        · cases e
        · rename_i ρ1 e2
          refine ht φ S H' σ ρ x d ρ1 ok1 (env.mono ok ex1) rx e2 _ fun σ1 env1 _ => ?_
          refine ⟨φ, S, ρ1, ok1, env1, ?_⟩
          split at e
          · rename_i ρ' S' e3
            exact ⟨_, e3, fun φ2 H2 σ2 ex2 ok2 env2 => ⟨φ2, S', ρ', r, ok2, env2, Mono.mono ok (ex1.trans ex2) rJ, e, q.ext (ex1.trans ex2)⟩⟩
          · rename_i ρ' S' e3
            exact ⟨_, e3, fun φ2 H2 σ2 ex2 ok2 env2 => ⟨φ2, S', ρ', r, ok2, env2, Mono.mono ok (ex1.trans ex2) rJ, e, q.ext (ex1.trans ex2)⟩⟩
          · rename_i ρ' S' e3
            cases e
            exact ⟨_, e3, fun φ2 H2 σ2 ex2 ok2 env2 => q φ2 H2 σ2 (ex1.trans ex2) ok2 env2⟩
          · rename_i h1 h2 h3
            refine ⟨r, e, ?_⟩
            cases r with
            | nx ρ' S' => exact absurd e (h1 ρ' S')
            | cnt ρ' S' => exact absurd e (h2 ρ' S')
            | brk ρ' S' => exact absurd e (h3 ρ' S')
            | ret d S' => exact KS.ext ex1 q
            | exc c ρ' S' => exact KS.ext ex1 q

/-! ### comprehensions -/
def wipeE (ρ : Env) : List Nat → Env
  | [] => ρ
  | v :: vs => (wipeE ρ vs).set v none
theorem RelE.wipe {K : PySem.W.Frag} {φ : Nat → Addr} {n : Nat} {H : Hp} {ρ : Env} {σ : L2.St} (r : RelE K φ n H ρ σ) : ∀ vs : List Nat, RelE K φ n H (wipeE ρ vs) (wipe σ vs)
  | [] => r
  | v :: vs => (RelE.wipe r vs).unset v
def loopC (t : Tgt) (c : M Bool) (el : M D) (sq : Sq) (ρ0 : Env) (n0 : Nat) : Nat → Nat → Sto → Option Sto
  | 0, _, _ => none
  | n + 1, i, S => match sq i S with
    | none => none
    | some none => some S
    | some (some d) => match t d ρ0 S with
      | none => none
      | some ρ1 => match c ρ1 S with
        | some (.val false S1) => loopC t c el sq ρ0 n0 n (i + 1) S1
        | some (.val true S1) => match el ρ1 S1 with
          | some (.val y S2) => match S2[n0]? with
            | some (.lst acc) => if acc.length < 1000000 then loopC t c el sq ρ0 n0 n (i + 1) (S2.set n0 (.lst (acc ++ [y]))) else none
            | _ => none
          | _ => none
        | _ => none
def mLc (vs : List Nat) (t : Tgt) (it : M Sq) (c : M Bool) (el : M D) : M D := mB it fun sq ρ S => match loopC t c el sq (wipeE ρ vs) S.length fuel 0 (S ++ [.lst []]) with
  | some S' => some (.val (.ref S.length) S')
  | none => none
def W0 : WX := fun _ _ _ _ => False
def mYes : M Bool := mRet true
/-- the tests of a comprehension -/
def XTs (X : Cx) (ec : Str → Value) (W : WX) (ifs : List Expr) (m : M Bool) : Prop := PTs X ifs (rd X.K ec RelB W m)
theorem xts_nil : XTs X ec W [] mYes := ⟨fun pins s σ H Q I h => pts_nil.run pins s σ H Q I (rd_ret (rel := RelB) (fun _ _ _ => rfl) h)⟩
theorem xts_one {c : Expr} {m : M Bool} (h : XT X ec W c m) : XTs X ec W [c] m := pts_one h
theorem lc_red {K : PySem.W.Frag} {mi : M Sq} {mt : M Bool} {me : M D} {g : TG} {t : Tgt} {vs : List Nat} (ht : TgS K g t vs) {σ : L2.St} {H : Hp} {Q : VK} (h : rd K ec (Rel K) W (mLc vs t mi mt me) σ H Q) :
    tLc (rd K ec (SeqR K) W mi) g (rd K ec RelB W0 mt) (rd K ec (Rel K) W0 me) vs σ H Q := by
  obtain ⟨φ, S, ρ, c⟩ := Cf.start h
  refine rd_imp (c.bind (rel1 := SeqR K) monoC_true) fun J H1 ⟨φ1, S1, sq, rJ, c1⟩ => ?_
  intro Da hD
  obtain ⟨r0, e0, q0⟩ := c1.run
  cases hl : loopC t mt me sq (wipeE ρ vs) S1.length fuel 0 (S1 ++ [.lst []]) with
  | none => rw [hl] at e0; cases e0
  | some SF =>
    rw [hl] at e0
    cases e0
    have ex0 : Ext φ1 S1.length H1 (nxt φ1 S1.length Da) (S1 ++ [O.lst []]).length (upd H1 Da (.lst [])) := ext_new' hD
    have ok0 : Ok K (nxt φ1 S1.length Da) (S1 ++ [O.lst []]) (upd H1 Da (.lst [])) := c1.ok.new hD (.lst .nil)
    refine ⟨fun i m H => ∃ φ S, Ok K φ S H ∧ Ext φ1 S1.length H1 φ S.length H ∧ φ S1.length = Da ∧ S1.length < S.length ∧ loopC t mt me sq (wipeE ρ vs) S1.length m i S = some SF, ?_, ?_⟩
    · exact ⟨fuel, _, _, ok0, ex0, nxt_new, by rw [List.length_append, List.length_singleton]; exact Nat.lt_succ_self _, hl⟩
    · rintro i m H ⟨φ, S, ok, ex, eD, hn, e⟩
      cases m with
      | zero => cases e
      | succ m =>
        unfold loopC at e
        have RJ := rJ φ S H ok ex i
        split at e
        · cases e
        · rename_i e1
          cases e
          refine .inl ⟨RJ.2 e1, ?_⟩
          have := q0 φ H (.ref Da) ex ok (by rw [← eD]; exact .ref hn)
          exact this
        · rename_i d e1
          obtain ⟨go, yld⟩ := RJ.1 d e1
          refine .inr ⟨go, fun H => ∃ φ S, Ok K φ S H ∧ Ext φ1 S1.length H1 φ S.length H ∧ φ S1.length = Da ∧ S1.length < S.length ∧ loopC t mt me sq (wipeE ρ vs) S1.length m (i + 1) S = some SF, fun H' h => ⟨m, Nat.lt_succ_self _, h⟩, fun x H' y => ?_⟩
          obtain ⟨ex1, ok1, rx⟩ := yld x H' y
          split at e
          · cases e
          · rename_i ρ1 e2
            have envw : RelE K φ S.length H' (wipeE ρ vs) (wipe σ vs) := ((c1.env.mono c1.ok (ex.trans ex1)).wipe vs)
            refine ht φ S H' _ _ x d ρ1 ok1 envw rx e2 _ fun σ1 env1 w1 => ⟨?_, ?_⟩
            · have ww : ∀ (vs : List Nat) (σ : L2.St), L2.wipe (L2.wipe σ vs) vs = L2.wipe σ vs := by
                intro vs σ
                have : ∀ (us : List Nat), (∀ u ∈ us, u ∈ vs) → L2.wipe (L2.wipe σ us) vs = L2.wipe σ vs := by
                  intro us
                  induction us with
                  | nil => intro _; rfl
                  | cons u us ih =>
                    intro hu
                    show L2.wipe ((L2.wipe σ us).set u none) vs = _
                    rw [wipe_set (hu u List.mem_cons_self), ih fun v hv => hu v (List.mem_cons_of_mem _ hv)]
                exact this vs fun _ h => h
              rw [w1, ww]
            · have exT : Ext φ1 S1.length H1 φ S.length H' := ex.trans ex1
              split at e
              · rename_i Sa e3
                refine ⟨φ, S, ρ1, ok1, env1, _, e3, fun φ2 H2 b ex2 ok2 rb => ?_⟩
                cases rb
                exact iteF ⟨φ2, Sa, ok2, exT.trans ex2, by rw [ex2.same _ hn]; exact eD, Nat.lt_of_lt_of_le hn ex2.le, e⟩
              · rename_i Sa e3
                refine ⟨φ, S, ρ1, ok1, env1, _, e3, fun φ2 H2 b ex2 ok2 rb => ?_⟩
                cases rb
                refine iteT ?_
                split at e
                · rename_i yv Sb e4
                  refine ⟨φ2, Sa, ρ1, ok2, env1.mono ok1 ex2, _, e4, fun φ3 H3 b ex3 ok3 rb => ?_⟩
                  have hn3 : S1.length < Sb.length := Nat.lt_of_lt_of_le hn (Nat.le_trans ex2.le ex3.le)
                  have eD3 : φ3 S1.length = Da := by rw [ex3.same _ (Nat.lt_of_lt_of_le hn ex2.le), ex2.same _ hn]; exact eD
                  split at e
                  · rename_i acc e5
                    split at e
                    · rename_i hsz
                      obtain ⟨us, h6, r6⟩ := ok3.lst e5
                      refine ⟨us, by rw [← eD3]; exact h6, by rw [r6.len]; exact Nat.lt_of_lt_of_le hsz (by decide), φ3, _, ?_, ?_, eD3, ?_, e⟩
                      · rw [← eD3]
                        exact ok3.put hn3 (.lst (r6.app (.cons rb .nil)))
                      · rw [← eD3, List.length_set]
                        exact ((exT.trans ex2).trans ex3).trans (ext_put ok3 hn3)
                      · rw [List.length_set]; exact hn3
                    · cases e
                  · cases e
                · cases e
              · cases e
theorem x_lc {elt tg iter : Expr} {ifs : List Expr} {scope : Scope} {own : List (Str × Nat)} {pos : Pos} {mi : M Sq} {mt : M Bool} {me : M D} {g : TG} {t : Tgt} (hc : X.calm = true) (hN : X.N.Nodup) (hi : XI X ec W tg iter mi) (ok : BlkOk X.N X.env.scope scope own)
    (hg : ∀ (s : Shared) (H : Hp) (C : Addr) (cl : List (Str × Addr)) (fp : List Addr), PG (X.blk s H scope (compEnvC scope cl C X.env) fp) tg g) (ht : TgS X.K g t (own.map (·.2)))
    (hif : ∀ (s : Shared) (H : Hp) (C : Addr) (cl : List (Str × Addr)) (fp : List Addr), XTs (X.blk s H scope (compEnvC scope cl C X.env) fp) ec W0 ifs mt)
    (he : ∀ (s : Shared) (H : Hp) (C : Addr) (cl : List (Str × Addr)) (fp : List Addr), XE (X.blk s H scope (compEnvC scope cl C X.env) fp) ec W0 elt me) (hs : ∀ x, foldedSetIterable iter X.env x = pure x := by intro _; rfl) :
    XE X ec W (.ListComp elt [⟨tg, iter, ifs, 0⟩] scope pos) (mLc (own.map (·.2)) t mi mt me) := imE (pe_lc (tt := rd X.K ec RelB W0 mt) (te := rd X.K ec (Rel X.K) W0 me) hc hN hi ok hg (fun s H C cl fp => hif s H C cl fp) (fun s H C cl fp => he s H C cl fp) hs) fun σ H Q h => lc_red ht h
theorem x_setLc {i : Nat} {y : Str} {py : Pos} {elt tg iter : Expr} {ifs : List Expr} {scope : Scope} {own : List (Str × Nat)} {pos spos : Pos} {mi : M Sq} {mt : M Bool} {me : M D} {g : TG} {t : Tgt} (hc : X.calm = true) (hN : X.N.Nodup) (hi : XI X ec W tg iter mi) (ok : BlkOk X.N X.env.scope scope own)
    (hg : ∀ (s : Shared) (H : Hp) (C : Addr) (cl : List (Str × Addr)) (fp : List Addr), PG (X.blk s H scope (compEnvC scope cl C X.env) fp) tg g) (ht : TgS X.K g t (own.map (·.2)))
    (hif : ∀ (s : Shared) (H : Hp) (C : Addr) (cl : List (Str × Addr)) (fp : List Addr), XTs (X.blk s H scope (compEnvC scope cl C X.env) fp) ec W0 ifs mt)
    (he : ∀ (s : Shared) (H : Hp) (C : Addr) (cl : List (Str × Addr)) (fp : List Addr), XE (X.blk s H scope (compEnvC scope cl C X.env) fp) ec W0 elt me) (hs : ∀ x, foldedSetIterable iter X.env x = pure x := by intro _; rfl)
    (hy : X.N[i]? = some y := by rfl) (hyl : X.env.scope.names.lookup y = some .local := by rfl) (hsw : swapsWith (.ListComp elt [⟨tg, iter, ifs, 0⟩] scope pos) (some (.Name y py)) spos.line X.env = pure true) :
    XS X ec W (.Assign [.Name y py] (.ListComp elt [⟨tg, iter, ifs, 0⟩] scope pos) spos) (sSet i (mLc (own.map (·.2)) t mi mt me)) := imS (ps_setLc (tt := rd X.K ec RelB W0 mt) (te := rd X.K ec (Rel X.K) W0 me) hc hN hy hyl hsw hi ok hg (fun s H C cl fp => hif s H C cl fp) (fun s H C cl fp => he s H C cl fp) hs) fun D σ H h => by
  obtain ⟨φ, S, ρ, c⟩ := Cs.start h
  refine lc_red (W := W) (ec := ec) ht (rd_imp (c.bind (rel1 := Rel X.K) monoC_true) fun x H1 ⟨φ1, S1, a, ra, ex, c1⟩ => ?_)
  obtain ⟨r, e, q⟩ := c1.run
  cases e
  exact q φ1 H1 _ (Ext.refl _ _ _) c1.ok (c1.env.set i ra)
end Rf
namespace Rf
open PySem PySem.Spec PyProof.Rows L2

variable {X : Cx} {ec : Str → Value} {W : WX}
/-! ### is -/
def gIs : G2 := fun a b S => match b with
  | .non => match a with
    | .non => some (.bl true, S)
    | _ => some (.bl false, S)
  | .bl k => match a with
    | .bl c => some (.bl (decide (c = k)), S)
    | .ty _ => none
    | _ => some (.bl false, S)
  | _ => none
theorem op_isB : OpR X (compareOp .Is) (fun x y H Q => ∃ b, y = .bl b ∧ (∀ n, x ≠ .ty n) ∧ Q (.bl (decide (x = .bl b))) H) := by
  intro pins s σ H x y v u Q I rx ry h
  obtain ⟨b, rfl, ht, q⟩ := h
  cases ry
  cases x with
  | bl c =>
    cases rx
    by_cases e : c = b
    · subst e
      exact wpAny_is_self rfl ⟨.bl true, H, I, rfl, by simpa using q⟩
    · exact wpAny_is_other rfl (fun z => e (Value.bool.inj z)) ⟨.bl false, H, I, rfl, by simpa [e] using q⟩
  | non => cases rx; exact wpAny_is_other rfl (fun z => nomatch z) ⟨.bl false, H, I, rfl, by simpa using q⟩
  | int i => obtain ⟨t, rfl⟩ := rx; exact wpAny_is_other rfl (fun z => nomatch z) ⟨.bl false, H, I, rfl, by simpa using q⟩
  | str i => obtain ⟨t, rfl⟩ := rx; exact wpAny_is_other rfl (fun z => nomatch z) ⟨.bl false, H, I, rfl, by simpa using q⟩
  | byt i => obtain ⟨t, rfl⟩ := rx; exact wpAny_is_other rfl (fun z => nomatch z) ⟨.bl false, H, I, rfl, by simpa using q⟩
  | flt i => obtain ⟨t, rfl⟩ := rx; exact wpAny_is_other rfl (fun z => nomatch z) ⟨.bl false, H, I, rfl, by simpa using q⟩
  | ref a => cases rx; exact wpAny_is_other rfl (fun z => nomatch z) ⟨.bl false, H, I, rfl, by simpa using q⟩
  | ty n => exact absurd rfl (ht n)
theorem opS_is : OpS X (compareOp .Is) gIs := ⟨_, op_isN.or op_isB, fun φ S H x y a b c S' ok ra rb e Q q => by
  cases rb with
  | non =>
    refine .inl ⟨rfl, ?_⟩
    cases ra <;> (cases e; exact q φ H _ (Ext.refl _ _ _) ok (.bl _))
  | bl k =>
    refine .inr ⟨k, rfl, ?_, ?_⟩
    · intro n z
      subst z
      cases ra
      cases e
    · cases ra <;> first
        | (cases e; refine q φ H _ (Ext.refl _ _ _) ok ?_; simp only [V.bl.injEq]; exact .bl _)
        | (cases e; refine q φ H _ (Ext.refl _ _ _) ok ?_; exact .bl _)
        | cases e
  | _ => cases e⟩

/-! ### == of what has no parts -/
def gEq : G2 := fun a b S => match a, b with
  | .int i, .int j => some (.bl (decide (i = j)), S)
  | .str i, .str j => some (.bl (decide (i = j)), S)
  | .bl i, .bl j => some (.bl (decide (i = j)), S)
  | .non, .non => some (.bl true, S)
  | .int _, .non => some (.bl false, S)
  | .non, .int _ => some (.bl false, S)
  | .int _, .str _ => some (.bl false, S)
  | .str _, .int _ => some (.bl false, S)
  | _, _ => none
theorem opS_eq : OpS X (compareOp .Eq) gEq := ⟨_, op_eq, fun φ S H x y a b c S' ok ra rb e Q q => by
  cases ra <;> cases rb <;> first
    | (cases e; done)
    | (cases e; refine ⟨rfl, q φ H _ (Ext.refl _ _ _) ok ?_⟩; simp only [V.int.injEq, V.str.injEq, V.bl.injEq]; exact .bl _)
    | (cases e; exact ⟨rfl, q φ H _ (Ext.refl _ _ _) ok (.bl _)⟩)⟩
def gNe : G2 := fun a b S => match a, b with
  | .int i, .int j => some (.bl (!decide (i = j)), S)
  | .str i, .str j => some (.bl (!decide (i = j)), S)
  | .bl i, .bl j => some (.bl (!decide (i = j)), S)
  | .non, .non => some (.bl false, S)
  | .int _, .non => some (.bl true, S)
  | .non, .int _ => some (.bl true, S)
  | .int _, .str _ => some (.bl true, S)
  | .str _, .int _ => some (.bl true, S)
  | _, _ => none
theorem opS_ne : OpS X (compareOp .NotEq) gNe := ⟨_, op_ne, fun φ S H x y a b c S' ok ra rb e Q q => by
  cases ra <;> cases rb <;> first
    | (cases e; done)
    | (cases e; refine ⟨rfl, q φ H _ (Ext.refl _ _ _) ok ?_⟩; simp only [V.int.injEq, V.str.injEq, V.bl.injEq]; exact .bl _)
    | (cases e; exact ⟨rfl, q φ H _ (Ext.refl _ _ _) ok (.bl _)⟩)⟩

/-! ### xs.append(e) -/
def mApp (mo me : M D) : M D := mB mo fun o ρ S => match o with
  | .ref i => match S[i]? with
    | some (.lst _) => (mB me fun d _ S2 => match S2[i]? with
      | some (.lst xs) => if xs.length < 1000000 then some (.val .non (S2.set i (.lst (xs ++ [d])))) else none
      | _ => none) ρ S
    | _ => none
  | _ => none
theorem x_app {o e : Expr} {mo me : M D} {apos cpos : Pos} (ho : XE X ec W o mo) (he : XE X ec W e me) (hbase : attributeBase o "append" X.env (eval o X.env) = eval o X.env := by rfl)
    (hfew : ((backTo cpos (starEach (e :: []) X.env)).all (fun x => !x.1) && (backToKw cpos (keywordEach [] X.env)).all (fun x => x.1.isSome) && decide ((e :: []).length + ([] : List Keyword).length + (if ([] : List Keyword).isEmpty then 0 else 1) < 30)) = true := by rfl)
    (hline : (apos.endLine == cpos.line) = true := by rfl) (hs : starEach (e :: []) X.env = (false, eval e X.env) :: starEach [] X.env := by rfl) (hplain : (backTo cpos (starEach [] X.env)).any (·.1) = false := by rfl) :
    XE X ec W (.Call (.Attribute o "append" apos) [e] [] cpos) (mApp mo me) :=
  imE (pe_bm PySem.F.plainAttrs_list PySem.F.slot_list_append PySem.F.type_list_append mt_append ho (pa_cons he pa_nil hs) hbase hfew hline hs hplain) fun σ H Q h => by
  obtain ⟨φ, S, ρ, c⟩ := Cf.start h
  refine rd_imp (c.bind (rel1 := Rel X.K) monoC_true) fun x H1 ⟨φ1, S1, a, ra, c1⟩ => ?_
  obtain ⟨r, e, q⟩ := c1.run
  cases ra with
  | @ref i hi =>
    dsimp only at e
    split at e
    · rename_i xs0 hx0
      obtain ⟨us0, h0, r0⟩ := c1.ok.lst hx0
      refine ⟨.inl ⟨rfl, us0, SqL.of h0⟩, ?_⟩
      have c2 : Cf X.K ec (Rel X.K) W (fun φ n H => Rel X.K φ n H (.ref (φ1 i)) (.ref i)) φ1 S1 ρ σ H1 Q ((mB me fun d _ S2 => match S2[i]? with
        | some (.lst xs) => if xs.length < 1000000 then some (.val .non (S2.set i (.lst (xs ++ [d])))) else none
        | _ => none) ρ) := ⟨c1.ok, c1.env, .ref hi, r, e, q⟩
      refine rd_imp (c2.bind (rel1 := Rel X.K) monoC_rel) fun y H2 ⟨φ2, S2, d, rd2, c3⟩ => ?_
      obtain ⟨r3, e3, q3⟩ := c3.run
      have cr := c3.car
      have ea : φ1 i = φ2 i ∧ i < S2.length := by
        generalize hz : V.ref (φ1 i) = z at cr
        cases cr with
        | ref h => exact ⟨V.ref.inj hz, h⟩
      split at e3
      · rename_i xs hx
        split at e3
        · rename_i hsz
          cases e3
          obtain ⟨us, h1, r1⟩ := c3.ok.lst hx
          refine ⟨φ1 i, us, y, rfl, rfl, by rw [ea.1]; exact h1, by rw [r1.len]; exact Nat.lt_of_lt_of_le hsz (by decide), ?_⟩
          rw [ea.1]
          refine q3 φ2 _ .non ?_ (c3.ok.put ea.2 (.lst (r1.app (.cons rd2 .nil)))) .non
          rw [List.length_set]
          exact ext_put c3.ok ea.2
        · cases e3
      · cases e3
    · cases e
  | _ => cases e

/-! ### x op= e -/
def sAug (i : Nat) (g : G2) (m : M D) : MS := fun ρ S => match ρ[i]? with
  | some (some d0) => sB m (fun d ρ S => match g d0 d S with
    | some (c, S') => some (.nx (ρ.set i (some c)) S')
    | none => none) ρ S
  | _ => none
theorem x_aug {x : Str} {e : Expr} {m : M D} {op : Operator} {g : G2} {pos pos' : Pos} (i : Nat) (hN : X.N.Nodup) (ho : OpS X (inplaceOp op) g) (h : XE X ec W e m) (hi : X.N[i]? = some x := by rfl) (hx : Loc X.env.scope x := by first | exact Or.inl rfl | exact Or.inr rfl) (hf : X.fn x = true ∨ X.env.scope.names.lookup x = some .local := by first | exact .inl rfl | exact .inr rfl | assumption) :
    XS X ec W (.AugAssign (.Name x pos') op e pos) (sAug i g m) := by
  obtain ⟨r2, hr2, hi2⟩ := ho
  refine imS (ps_aug hN hi hx h (show PIp X op r2 from hr2) hf) fun D σ H h => ?_
  obtain ⟨φ, S, ρ, ok, env, r, e, q⟩ := h
  unfold sAug at e
  split at e
  · rename_i d0 hd0
    obtain ⟨v0, hv0, rv0⟩ := env.at_ i d0 hd0
    refine ⟨v0, hv0, ?_⟩
    have c : Cs X.K ec W (fun φ n H => Rel X.K φ n H v0 d0) φ S ρ σ H D (sB m (fun d ρ S => match g d0 d S with
      | some (c, S') => some (.nx (ρ.set i (some c)) S')
      | none => none) ρ) := ⟨ok, env, rv0, r, e, q⟩
    refine rd_imp (c.bind (rel1 := Rel X.K) monoC_rel) fun y H1 ⟨φ1, S1, d, rd1, ex, c1⟩ => ?_
    obtain ⟨r1, e1, q1⟩ := c1.run
    cases hg : g d0 d S1 with
    | none => rw [hg] at e1; cases e1
    | some p =>
      obtain ⟨z, S'⟩ := p
      rw [hg] at e1
      cases e1
      exact hi2 φ1 S1 H1 v0 y d0 d z S' c1.ok c1.car rd1 hg _ fun φ' H' v ex' ok' rv => q1 φ' H' _ ex' ok' ((c1.env.mono c1.ok ex').set i rv)
  · cases e
def giAdd : G2 := gI (fun _ _ => true) fun i j => .int (i + j)
theorem opS_iadd : OpS X (inplaceOp .Add) giAdd := opS_I0 iop_add fun _ _ _ _ _ => .int _
def giSub : G2 := gI (fun _ _ => true) fun i j => .int (i - j)
theorem opS_isub : OpS X (inplaceOp .Sub) giSub := opS_I0 iop_sub fun _ _ _ _ _ => .int _

/-! ### a def -/
def fnOf (n : Nat) (m : MS) : List D → Sto → Option (R D) := fun ds S => match m (ds.map some ++ List.replicate (n - ds.length) none) S with
  | some (.nx _ S') => some (.val .non S')
  | some (.ret d S') => some (.val d S')
  | some (.exc c _ S') => some (.exc c S')
  | _ => none
theorem start_rel {K : PySem.W.Frag} {φ : Nat → Addr} {n : Nat} {H : Hp} {N : List Str} {vs : List V} {ds : List D} (r : Rels K φ n H vs ds) : RelE K φ n H (ds.map some ++ List.replicate (N.length - ds.length) none) (L2.start N vs) := by
  refine ⟨?_, fun i d h => ?_⟩
  · unfold L2.start
    rw [List.length_append, List.length_append, List.length_map, List.length_map, List.length_replicate, List.length_replicate, r.len]
  · have hi : i < ds.length := by
      by_cases c : i < ds.length
      · exact c
      · rw [List.getElem?_append_right (by rw [List.length_map]; omega), List.getElem?_replicate] at h
        split at h <;> cases h
    rw [List.getElem?_append_left (by rw [List.length_map]; exact hi), List.getElem?_map] at h
    cases e : ds[i]? with
    | none => rw [e] at h; cases h
    | some d' =>
      rw [e] at h
      cases h
      obtain ⟨v, hv, rv⟩ := r.get i e
      refine ⟨v, ?_, rv⟩
      unfold L2.start
      rw [List.getElem?_append_left (by rw [List.length_map, r.len]; exact hi), List.getElem?_map, hv]
      rfl
section
variable {P : Program} {w : World} {K : PySem.W.Frag} {mg : Str → Option Value} {base : Heap}
abbrev bodyX (P : Program) (w : World) (K : PySem.W.Frag) (mg : Str → Option Value) (base : Heap) (N : List Str) (qual : Str) (st : Stmt) (f : Addr) (cdv : Value) (A : Around) (outer : List PySem.Env) (s : Shared) (H : Hp) (E : XK) : Cx := cxOf (L2.CX P w) P w K mg base N qual (defScope st) f cdv A outer s H E
theorem fn_ok {x qual : Str} {st : Stmt} {f : Addr} {fd : FuncData} {N ps : List Str} {k n : Nat} {m : MS} (F : Fun K x qual st f fd) (Sc : FnScope N ps (defScope st)) (hn : N.length = n)
    (hb : ∀ (cdv : Value) (A : Around) (outer : List PySem.Env) (s : Shared) (H : Hp) (E : XK), Room k (bodyX P w K mg base N qual st f cdv A outer s H E).A → XSs (bodyX P w K mg base N qual st f cdv A outer s H E) ec (fun cls d _ H => E cls d H) (defBody st) m) :
    FnOk P w K mg base (L2.CX P w) (k + 1) f fd ps (spF K ec ps.length (fnOf n m)) := by
  subst hn
  refine F.okX Sc (fun vs H Q E h => ?_) (fun cdv A outer s H vs Q E hr h => ⟨_, hb cdv A outer s H E hr, ?_⟩)
  · obtain ⟨_, _, _, _, _, hl, _⟩ := h
    exact hl
  · obtain ⟨φ, S, ds, ok, rs, hl, r, e, q⟩ := h
    unfold fnOf at e
    refine ⟨φ, S, _, ok, start_rel (N := N) rs, ?_⟩
    split at e
    · rename_i ρ' S' e1
      cases e
      exact ⟨_, e1, fun φ' H' σ' ex ok' env' => q φ' H' .non ex ok' .non⟩
    · rename_i d S' e1
      cases e
      exact ⟨_, e1, q⟩
    · rename_i c ρ' S' e1
      cases e
      exact ⟨_, e1, fun φ' H' σ' ex ok' env' => q φ' H' ex ok'⟩
    · cases e
/-- a def of which nothing is known -/
theorem fn_none {f : Addr} {fd : FuncData} {ps : List Str} {k n : Nat} : FnOk P w K mg base (L2.CX P w) k f fd ps (spF K ec n fun _ _ => none) := by
  refine ⟨fun vs H Q E h => ?_, fun A outer s H args us vs Q E hr e0 hb hv h => ?_⟩
  · obtain ⟨_, _, _, _, _, _, _, e, _⟩ := h
    cases e
  · obtain ⟨_, _, _, _, _, _, _, e, _⟩ := h
    cases e
end
/-- raise C('..') -/
def sRaise (c : Str) : MS := fun ρ S => some (.exc c ρ S)
theorem x_raise {e : Expr} {x : Str} {v : Value} {pos : Pos} (hc : X.calm = true) (tk : Takes X W) (h : PMk X e (fun _ H Q => Q v none H)) (hv : ec x = v) : XS X ec W (.Raise (some e) none pos) (sRaise x) := imS (ps_raise hc tk h) fun D σ H h => by
  obtain ⟨φ, S, ρ, ok, env, r, e, q⟩ := h
  cases e
  have := q φ H σ (Ext.refl _ _ _) ok env
  rw [hv] at this
  exact this
/-- code that is not come to -/
def sNo : MS := fun _ _ => none
theorem x_no {st : Stmt} : XS X ec W st sNo := imS ps_never fun D σ H h => by
  obtain ⟨φ, S, ρ, ok, env, r, e, q⟩ := h
  cases e
end Rf
namespace Rf
open PySem PySem.Spec PyProof.Rows L2
variable {X : Cx} {ec : Str → Value} {W : WX}
/-! ### is not -/
def gIsNot : G2 := fun a b S => match gIs a b S with
  | some (.bl k, S') => some (.bl (!k), S')
  | _ => none
theorem op_isNotB : OpR X (compareOp .IsNot) (fun x y H Q => ∃ b, y = .bl b ∧ (∀ n, x ≠ .ty n) ∧ Q (.bl (!decide (x = .bl b))) H) := by
  intro pins s σ H x y v u Q I rx ry h
  obtain ⟨b, rfl, ht, q⟩ := h
  cases ry
  cases x with
  | bl c =>
    cases rx
    by_cases e : c = b
    · subst e
      exact wpAny_isNot_self rfl ⟨.bl false, H, I, rfl, by simpa using q⟩
    · exact wpAny_isNot_other rfl (fun z => e (Value.bool.inj z)) ⟨.bl true, H, I, rfl, by simpa [e] using q⟩
  | non => cases rx; exact wpAny_isNot_other rfl (fun z => nomatch z) ⟨.bl true, H, I, rfl, by simpa using q⟩
  | int i => obtain ⟨t, rfl⟩ := rx; exact wpAny_isNot_other rfl (fun z => nomatch z) ⟨.bl true, H, I, rfl, by simpa using q⟩
  | str i => obtain ⟨t, rfl⟩ := rx; exact wpAny_isNot_other rfl (fun z => nomatch z) ⟨.bl true, H, I, rfl, by simpa using q⟩
  | byt i => obtain ⟨t, rfl⟩ := rx; exact wpAny_isNot_other rfl (fun z => nomatch z) ⟨.bl true, H, I, rfl, by simpa using q⟩
  | flt i => obtain ⟨t, rfl⟩ := rx; exact wpAny_isNot_other rfl (fun z => nomatch z) ⟨.bl true, H, I, rfl, by simpa using q⟩
  | ref a => cases rx; exact wpAny_isNot_other rfl (fun z => nomatch z) ⟨.bl true, H, I, rfl, by simpa using q⟩
  | ty n => exact absurd rfl (ht n)
theorem opS_isnot : OpS X (compareOp .IsNot) gIsNot := ⟨_, op_notN.or op_isNotB, fun φ S H x y a b c S' ok ra rb e Q q => by
  cases rb with
  | non =>
    refine .inl ⟨rfl, ?_⟩
    cases ra <;> (cases e; exact q φ H _ (Ext.refl _ _ _) ok (.bl _))
  | bl k =>
    refine .inr ⟨k, rfl, ?_, ?_⟩
    · intro n z
      subst z
      cases ra
      cases e
    · cases ra <;> first
        | (cases e; refine q φ H _ (Ext.refl _ _ _) ok ?_; simp only [V.bl.injEq]; exact .bl _)
        | (cases e; refine q φ H _ (Ext.refl _ _ _) ok ?_; exact .bl _)
        | cases e
  | _ => cases e⟩
/-! ### x.bit_length() -/
def gBits : G1 := fun a S => match a with
  | .int i => some (.int ((Builtin.Int.intBits i : Nat) : Int), S)
  | _ => none
theorem x_bits {o : Expr} {m : M D} {apos pos : Pos} (ho : XE X ec W o m) (hbase : attributeBase o "bit_length" X.env (eval o X.env) = eval o X.env := by rfl) (hline : (apos.endLine == pos.line) = true := by rfl) : XE X ec W (.Call (.Attribute o "bit_length" apos) [] [] pos) (mUn gBits m) := imE (pe_bits ho hbase hline) fun σ H Q h => by
  obtain ⟨φ, S, ρ, c⟩ := Cf.start h
  refine rd_imp (c.bind (rel1 := Rel X.K) monoC_true) fun x H1 ⟨φ1, S1, a, ra, c1⟩ => ?_
  obtain ⟨r', e, q⟩ := c1.run
  cases a <;> first | cases e | skip
  cases ra
  exact ⟨_, rfl, q φ1 H1 _ (Ext.refl _ _ _) c1.ok (.int _)⟩
/-! ### tuples of the module -/
theorem rel_ints2 {K : PySem.W.Frag} {a : Addr} {dd : Option Addr} {i j : Int} {t u : Tok} {n : Nat} {sl : Array (Option Value)} (l : K.lookup a = some ⟨.type "tuple", dd, .seq #[.int i t, .int j u] n, sl⟩) : ∀ φ m H, Rel K φ m H (.ref a) (.tup [.int i, .int j]) := fun φ m H =>
  .tup (xs := [.int i, .int j]) (.inr ⟨_, _, n, l, rfl, rfl, (by show 2 ≤ sizeLine; decide), .cons ⟨t, rfl⟩ (.cons ⟨u, rfl⟩ .nil)⟩) (.cons (.int i) (.cons (.int j) .nil))
end Rf
namespace Rf
open PySem PySem.Spec PyProof.Rows L2
section
variable {X : Cx}
/-! ### texts repeated, texts to ints -/
theorem inv_tok {pins : List (Addr × Obj)} {σ : L2.St} {H : Hp} {s : Shared} {k : Nat} (h : Inv X pins σ H s) : Inv X pins σ H { heap := s.heap, gens := s.gens, drawn := s.drawn, toks := k, os := s.os } := by
  cases h
  constructor <;> assumption
theorem op_mul_str : OpR X (binaryOp .Mult) (fun x y H Q => ∃ a n, x = V.str a ∧ y = V.int n ∧ MulOk a n ∧ Q (V.str (Txt.mul a n)) H) := by
  intro pins s σ H x y v u Q inv rx ry h
  obtain ⟨a, n, rfl, rfl, ok, q⟩ := h
  obtain ⟨t, rfl⟩ := rx
  obtain ⟨t', rfl⟩ := ry
  exact SB.mul ok fun t k => ⟨V.str (Txt.mul a n), H, inv_tok inv, ⟨t, rfl⟩, q⟩
theorem mulok1 {a : Str} {n : Int} (h : a.length = 1) (hn : n.natAbs ≤ 1000) : MulOk a n := by
  refine ⟨?_, fun h1 h2 => ?_, fun h1 h2 => ?_⟩
  · rw [Bool.or_eq_false_iff]
    exact ⟨decide_eq_false (by omega), decide_eq_false (by omega)⟩
  · rw [h]
    have : (1 : Int) ≤ (2 ^ 63 - 1) / n := Int.le_ediv_of_mul_le (by omega) (by omega)
    omega
  · rw [h]
    unfold Builtin.Str.tooLong
    refine decide_eq_false ?_
    have : sizeLine = sizeLine := rfl
    have k : (1000 : Nat) < sizeLine := by decide
    omega
def gRep : G2 := fun a b S => match a, b with
  | .str x, .int n => if decide (x.length = 1) && decide (n.natAbs ≤ 1000) then some (.str (Txt.mul x n), S) else none
  | _, _ => none
theorem opS_rep : OpS X (binaryOp .Mult) gRep := by
  refine ⟨_, op_mul_str, fun φ S H x y a b d S' ok ra rb e Q q => ?_⟩
  unfold gRep at e
  split at e
  · split at e
    · rename_i i j h
      cases e
      cases ra
      cases rb
      rw [Bool.and_eq_true] at h
      exact ⟨i, j, rfl, rfl, mulok1 (of_decide_eq_true h.1) (of_decide_eq_true h.2), q φ H _ (Ext.refl _ _ _) ok (.str _)⟩
    · cases e
  · cases e
def gMulT : G2 := orG gMul gRep
theorem opS_mulT : OpS X (binaryOp .Mult) gMulT := opS_mul.or opS_rep
def gIntS : GN := fun as S => match as with
  | [.str a] => if a.length ≤ 640 then (intText? a).map fun n => (.int n, S) else none
  | _ => none
theorem callS_intS : CallS X (.type "int") gIntS := ⟨_, call_int_str, fun φ S H xs as c S' ok ra e Q q => by
  unfold gIntS at e
  split at e
  · rename_i a
    split at e
    · rename_i h
      cases hn : intText? a with
      | none => rw [hn] at e; cases e
      | some n =>
        rw [hn] at e
        cases e
        cases ra with
        | cons r t =>
          cases r
          cases t
          exact ⟨_, n, rfl, hn, h, q φ H _ (Ext.refl _ _ _) ok (.int _)⟩
    · cases e
  · cases e⟩
def gIntT : GN := fun as S => match gInt as S with
  | some z => some z
  | none => gIntS as S
theorem callS_intT : CallS X (.type "int") gIntT := callS_int.or callS_intS
/-- the ints of 1 and some 0s -/
theorem ten_text : ∀ n : Fin 40, ∃ m : Nat, intText? (Str.ofString "1" ++ Txt.mul (Str.ofString "0") (n.val : Int)) = some (m : Int) ∧ m < 2 ^ 140 ∧ (Str.ofString "1" ++ Txt.mul (Str.ofString "0") (n.val : Int)).length ≤ 640 := by
  intro n
  refine ⟨10 ^ n.val, ?_⟩
  revert n
  decide +kernel
end
end Rf
namespace Rf
open PySem PySem.Spec PyProof.Rows L2
/-- try, with one class -/
def sTry (b : MS) (x : Str) (h : MS) : MS := fun ρ S => match b ρ S with
  | some (.exc c ρ' S') => if c = x then h ρ' S' else none
  | r => r
theorem exm_self {K : PySem.W.Frag} {S : Addr} (h1 : PySem.W.subIn K (.ref S) (.type "BaseException") = some true) (h2 : PySem.W.isClsIn K S = true) (h3 : PySem.W.typeIn K (.ref S) = some (.type "type")) (h4 : PySem.W.subIn K (.ref S) (.ref S) = some true) :
    PySem.W.exmOne K (.ref S) (.ref S) = some true := by
  have e1 : (PySem.W.subIn K (.ref S) (.type "BaseException") == some true) = true := by rw [h1] <;> rfl
  have e2 : ((PySem.W.clsIn K S).isSome && PySem.W.typeIn K (.ref S) == some (.type "type")) = true := by
    have h2' : (PySem.W.clsIn K S).isSome = true := h2
    rw [h2', h3] <;> rfl
  show (if (PySem.W.subIn K (.ref S) (.type "BaseException") == some true) = true then (if ((PySem.W.clsIn K S).isSome && PySem.W.typeIn K (.ref S) == some (.type "type")) = true then PySem.W.subIn K (.ref S) (.ref S) else none) else none) = some true
  rw [if_pos e1, if_pos e2]
  exact h4
theorem x_try {X : Cx} {ec : Str → Value} {W : WX} {x : Str} {c : Value} {body suite : List Stmt} {b₀ : Stmt} {np pos pos' : Pos} {b h : MS} (hs : X.stack = X.env :: X.outer) (hf : X.env.frame = some X.env.locals) (hc : Names X x c) (tk : Takes X W) (hec : ec x = c)
    (hm : PySem.W.exmOne X.K c c = some true)
    (hb : ∀ (W' : WX) (pn : List (Addr × Obj)) (xe : Value → Shared → Prop), Takes (X.tr pn xe) W' → PassesOwn (model X.prog X.w) X.A X.env xe → XSs (X.tr pn xe) ec W' body b)
    (hh : ∀ (a : Addr) (oe : Obj) (cls : Value) (d : Option Addr) (pn : List (Addr × Obj)), Zc cls d oe → (∃ vs, oe.data = Data.fields vs) → XSs (X.suite a ((a, oe) :: pn)) ec W (b₀ :: suite) h) :
    XS X ec W (.Try body [.ExceptHandler (some (.Name x np)) none (b₀ :: suite) pos'] [] [] pos) (sTry b x h) := by
  refine imS (ps_try_only (tb := fun W' => rdS X.K ec W' b) (ts := fun _ _ _ => rdS X.K ec W h) (Wout := W) hs hf hc tk (fun W' pn xe t p => hb W' pn xe t p) (fun a oe cls d pn z v => hh a oe cls d pn z v)) fun D σ H q => ?_
  obtain ⟨φ, S, ρ, ok, env, r, e, k⟩ := q
  refine ⟨φ, S, ρ, ok, env, ?_⟩
  unfold sTry at e
  split at e
  · rename_i c1 ρ' S' e1
    split at e
    · rename_i hx
      subst hx
      refine ⟨_, e1, fun φ' H' σ' ex ok' env' => ⟨true, by rw [hec]; exact hm, fun _ a _ => ?_, fun z => nomatch z⟩⟩
      exact ⟨φ', S', ρ', ok', env', r, e, k.ext ex⟩
    · cases e
  · rename_i hn
    refine ⟨r, e, ?_⟩
    cases r with
    | exc c1 ρ' S' => exact absurd e (fun y => hn _ _ _ y)
    | nx ρ' S' => exact k
    | ret d S' => exact k
    | brk ρ' S' => exact k
    | cnt ρ' S' => exact k
end Rf
namespace Rf
open PySem PySem.Spec PyProof.Rows L2
theorem var0 {d : D} {ρ : Env} {S : Sto} : mVar 0 (some d :: ρ) S = some (.val d S) := rfl
theorem varS {x : Option D} {i : Nat} {ρ : Env} {S : Sto} : mVar (i + 1) (x :: ρ) S = mVar i ρ S := by
  unfold mVar
  rw [List.getElem?_cons_succ]
theorem set0 {α : Type} {x y : α} {ρ : List α} : (x :: ρ).set 0 y = y :: ρ := rfl
theorem setS {α : Type} {x y : α} {i : Nat} {ρ : List α} : (x :: ρ).set (i + 1) y = x :: ρ.set i y := rfl
theorem ixT {k : Nat} {x : D} {xs : List D} {S : Sto} (h : xs[k]? = some x) : gIx (.tup xs) (.int (k : Int)) S = some (x, S) := by
  unfold gIx
  dsimp only
  show (itemsOf S (.tup xs)).bind _ = _
  show (some xs).bind _ = _
  rw [Option.bind_some, atI_nat h]
  rfl
theorem ix0 {x : D} {xs : List D} {S : Sto} : gIx (.tup (x :: xs)) (.int 0) S = some (x, S) := ixT (k := 0) rfl
theorem ix1 {x y : D} {xs : List D} {S : Sto} : gIx (.tup (x :: y :: xs)) (.int 1) S = some (y, S) := ixT (k := 1) rfl
theorem ix2 {x y z : D} {xs : List D} {S : Sto} : gIx (.tup (x :: y :: z :: xs)) (.int 2) S = some (z, S) := ixT (k := 2) rfl
/-- a list of the store -/
theorem ixR {i k : Nat} {x : D} {xs : List D} {S : Sto} (hs : S[i]? = some (.lst xs)) (h : xs[k]? = some x) : gIx (.ref i) (.int (k : Int)) S = some (x, S) := by
  unfold gIx
  dsimp only
  show (itemsOf S (.ref i)).bind _ = _
  have e : itemsOf S (.ref i) = some xs := by
    unfold itemsOf
    dsimp only
    rw [hs]
  rw [e, Option.bind_some, atI_nat h]
  rfl
theorem mul_ii {i j : Int} {S : Sto} (h : mulOk i j = true) : gMul (.int i) (.int j) S = some (.int (i * j), S) := by
  unfold gMul gI
  dsimp only
  rw [if_pos h]
theorem div_ii {i j : Int} {S : Sto} (h : divOk i j = true) : gDiv (.int i) (.int j) S = some (.int (i.fdiv j), S) := by
  unfold gDiv gI
  dsimp only
  rw [if_pos h]
theorem mod_ii {i j : Int} {S : Sto} (h : j ≠ 0) : gMod (.int i) (.int j) S = some (.int (i.fmod j), S) := by
  unfold gMod gI
  dsimp only
  rw [if_pos (decide_eq_true h)]
theorem add_ii {i j : Int} {S : Sto} : gAdd (.int i) (.int j) S = some (.int (i + j), S) := rfl
theorem sub_ii {i j : Int} {S : Sto} : gSub (.int i) (.int j) S = some (.int (i - j), S) := rfl
theorem lt_ii {i j : Int} {S : Sto} : gLt (.int i) (.int j) S = some (.bl (decide (i < j)), S) := rfl
theorem le_ii {i j : Int} {S : Sto} : gLe (.int i) (.int j) S = some (.bl (decide (i ≤ j)), S) := rfl
theorem gt_ii {i j : Int} {S : Sto} : gGt (.int i) (.int j) S = some (.bl (decide (j < i)), S) := rfl
theorem ge_ii {i j : Int} {S : Sto} : gGe (.int i) (.int j) S = some (.bl (decide (j ≤ i)), S) := rfl
theorem eq_ii {i j : Int} {S : Sto} : gEq (.int i) (.int j) S = some (.bl (decide (i = j)), S) := rfl
theorem ne_ii {i j : Int} {S : Sto} : gNe (.int i) (.int j) S = some (.bl (!decide (i = j)), S) := rfl
theorem neg_i {i : Int} {S : Sto} : gNeg (.int i) S = some (.int (-i), S) := rfl
theorem gcd_ii {i j : Int} {S : Sto} : gGcd [.int i, .int j] S = some (.int ((Nat.gcd i.natAbs j.natAbs : Nat) : Int), S) := rfl
theorem abs_i {i : Int} {S : Sto} : gAbs [.int i] S = some (.int (if i < 0 then -i else i), S) := rfl
theorem int_i {i : Int} {S : Sto} : gInt [.int i] S = some (.int i, S) := rfl
theorem int_b {k : Bool} {S : Sto} : gInt [.bl k] S = some (.int (if k then 1 else 0), S) := rfl
theorem tru_b {k : Bool} {S : Sto} : truD (.bl k) S = some k := rfl
/-- a choice by a test -/
theorem sIf_tt {c : M Bool} {a b : MS} {ρ : Env} {S S1 : Sto} (h : c ρ S = some (.val true S1)) : sIf c a b ρ S = a ρ S1 := by unfold sIf sB; rw [h]
end Rf
namespace Rf
open PySem PySem.Spec PyProof.Rows L2
theorem loopW_true {c : M Bool} {b : MS} {n : Nat} {ρ ρ' : Env} {S S1 S' : Sto} (hc : c ρ S = some (.val true S1)) (hb : b ρ S1 = some (.nx ρ' S')) : loopW c b (n + 1) ρ S = loopW c b n ρ' S' := by
  rw [loopW]
  simp only [hc, hb]
theorem loopW_false {c : M Bool} {b : MS} {n : Nat} {ρ : Env} {S S1 : Sto} (hc : c ρ S = some (.val false S1)) : loopW c b (n + 1) ρ S = some (.nx ρ S1) := by
  rw [loopW]
  simp only [hc]
/-- a for over items that stand -/
def forI (t : Tgt) (b : MS) : List D → MS
  | [] => fun ρ S => some (.nx ρ S)
  | x :: xs => fun ρ S => match t x ρ S with
    | none => none
    | some ρ1 => match b ρ1 S with
      | some (.nx ρ' S') => forI t b xs ρ' S'
      | some (.cnt ρ' S') => forI t b xs ρ' S'
      | some (.brk ρ' S') => some (.nx ρ' S')
      | r => r
theorem loopQ_items {t : Tgt} {b : MS} {xs : List D} : ∀ (n i : Nat) (ρ : Env) (S : Sto), xs.length - i < n → loopQ t b (sqIt xs) n i ρ S = forI t b (xs.drop i) ρ S
  | 0, i, ρ, S, h => absurd h (by omega)
  | n + 1, i, ρ, S, h => by
    rw [loopQ]
    by_cases c : i < xs.length
    · have ih := fun ρ S => loopQ_items (t := t) (b := b) (xs := xs) n (i + 1) ρ S (by omega)
      rw [List.drop_eq_getElem_cons c]
      have e1 : sqIt xs i S = some (some xs[i]) := by
        unfold sqIt
        rw [List.getElem?_eq_getElem c]
      simp only [e1, forI]
      cases h1 : t xs[i] ρ S with
      | none => rfl
      | some ρ1 =>
        dsimp only
        cases h2 : b ρ1 S with
        | none => rfl
        | some r =>
          cases r with
          | nx ρ' S' => exact ih ρ' S'
          | cnt ρ' S' => exact ih ρ' S'
          | brk ρ' S' => rfl
          | ret d S' => rfl
          | exc c ρ' S' => rfl
    · have e1 : sqIt xs i S = some none := by
        unfold sqIt
        rw [List.getElem?_eq_none (by omega)]
      rw [List.drop_eq_nil_of_le (by omega)]
      simp only [e1]
      rfl
theorem for_items {t : Tgt} {it : M Sq} {b : MS} {ρ : Env} {S S1 : Sto} {xs : List D} (h : it ρ S = some (.val (sqIt xs) S1)) (hl : xs.length < fuel) : sFor t it b ρ S = forI t b xs ρ S1 := by
  unfold sFor sB
  rw [h]
  exact loopQ_items fuel 0 ρ S1 (by omega)
theorem forI_nil {t : Tgt} {b : MS} {ρ : Env} {S : Sto} : forI t b [] ρ S = some (.nx ρ S) := rfl
theorem forI_nx {t : Tgt} {b : MS} {x : D} {xs : List D} {ρ ρ1 ρ' : Env} {S S' : Sto} (ht : t x ρ S = some ρ1) (hb : b ρ1 S = some (.nx ρ' S')) : forI t b (x :: xs) ρ S = forI t b xs ρ' S' := by
  rw [forI]
  simp only [ht, hb]
theorem mRng1_eq {ms : M (List D)} {ρ : Env} {S S1 : Sto} {n : Int} (h : ms ρ S = some (.val [.int n] S1)) (hn : rngOk n = true) : mRng1 ms ρ S = some (.val (sqIt (rngD 0 n.toNat)) S1) := by
  unfold mRng1 mB
  rw [h]
  dsimp only
  rw [if_pos hn]
theorem rngD_succ {lo : Int} {n : Nat} : rngD lo (n + 1) = .int lo :: rngD (lo + 1) n := by
  unfold rngD
  rw [List.range_succ_eq_map, List.map_cons, List.map_map]
  congr 1
  · simp
  · apply List.map_congr_left
    intro a _
    show D.int (lo + ((a + 1 : Nat) : Int)) = D.int (lo + 1 + (a : Int))
    congr 1
    omega
theorem get_last {S : Sto} {o : O} {k : Nat} (h : k = S.length) : (S ++ [o])[k]? = some o := by
  subst h
  rw [List.getElem?_append_right (Nat.le_refl _), Nat.sub_self]
  rfl
theorem set_last {S : Sto} {o o' : O} {k : Nat} (h : k = S.length) : (S ++ [o]).set k o' = S ++ [o'] := by
  subst h
  rw [List.set_append_right _ _ (Nat.le_refl _), Nat.sub_self]
  rfl
/-- append to the newest list -/
theorem app_last {mo me : M D} {ρ : Env} {S : Sto} {k : Nat} {xs : List D} {d : D} (hk : k = S.length) (ho : mo ρ (S ++ [.lst xs]) = some (.val (.ref k) (S ++ [.lst xs]))) (he : me ρ (S ++ [.lst xs]) = some (.val d (S ++ [.lst xs]))) (hl : xs.length < 1000000) :
    mApp mo me ρ (S ++ [.lst xs]) = some (.val .non (S ++ [.lst (xs ++ [d])])) := by
  unfold mApp mB
  rw [ho]
  dsimp only
  rw [get_last hk]
  dsimp only
  rw [he]
  dsimp only
  rw [get_last hk]
  dsimp only
  rw [if_pos hl, set_last hk]
theorem pow_1018 {S : Sto} : gPow (.int 10) (.int 18) S = some (.int 1000000000000000000, S) := by
  unfold gPow gI
  simp
end Rf
namespace Rf
open PySem PySem.Spec PyProof.Rows L2
theorem seq_nx {a b : MS} {ρ ρ' : Env} {S S' : Sto} {r : Option RS} (h : a ρ S = some (.nx ρ' S')) (k : b ρ' S' = r) : sSeq a b ρ S = r := by
  unfold sSeq
  rw [h]
  exact k
theorem seq_ret {a b : MS} {ρ : Env} {S S' : Sto} {d : D} (h : a ρ S = some (.ret d S')) : sSeq a b ρ S = some (.ret d S') := by
  unfold sSeq
  rw [h]
theorem fn_ret {n : Nat} {m : MS} {ds : List D} {S S' : Sto} {d : D} (h : m (ds.map some ++ List.replicate (n - ds.length) none) S = some (.ret d S')) : fnOf n m ds S = some (.val d S') := by
  unfold fnOf
  rw [h]
theorem set_eq {i : Nat} {m : M D} {ρ : Env} {S S1 : Sto} {d : D} (h : m ρ S = some (.val d S1)) : sSet i m ρ S = some (.nx (ρ.set i (some d)) S1) := by
  unfold sSet sB
  rw [h]
theorem ret_eq {m : M D} {ρ : Env} {S S1 : Sto} {d : D} (h : m ρ S = some (.val d S1)) : sRet m ρ S = some (.ret d S1) := by
  unfold sRet sB
  rw [h]
theorem if_t {c : M Bool} {a b : MS} {ρ : Env} {S S1 : Sto} {r : Option RS} (h : c ρ S = some (.val true S1)) (k : a ρ S1 = r) : sIf c a b ρ S = r := by
  unfold sIf sB
  rw [h]
  exact k
theorem if_f {c : M Bool} {a b : MS} {ρ : Env} {S S1 : Sto} {r : Option RS} (h : c ρ S = some (.val false S1)) (k : b ρ S1 = r) : sIf c a b ρ S = r := by
  unfold sIf sB
  rw [h]
  exact k
end Rf
namespace Rf
open PySem PySem.Spec PyProof.Rows L2
/-- a comprehension none of whose items is taken -/
theorem loopC_none {t : Tgt} {c : M Bool} {el : M D} {ρ0 : Env} {n0 : Nat} {xs : List D} (h : ∀ x ∈ xs, ∀ S, ∃ ρ1 G, t x ρ0 S = some ρ1 ∧ c ρ1 S = some (.val false (S ++ G))) : ∀ (n i : Nat) (S : Sto), xs.length - i < n → ∃ G, loopC t c el (sqIt xs) ρ0 n0 n i S = some (S ++ G)
  | 0, i, S, hn => absurd hn (by omega)
  | n + 1, i, S, hn => by
    rw [loopC]
    by_cases k : i < xs.length
    · have e1 : sqIt xs i S = some (some xs[i]) := by
        unfold sqIt
        rw [List.getElem?_eq_getElem k]
      obtain ⟨ρ1, G, h1, h2⟩ := h xs[i] (List.getElem_mem k) S
      obtain ⟨G', ih⟩ := loopC_none (el := el) (n0 := n0) h n (i + 1) (S ++ G) (by omega)
      exact ⟨G ++ G', by simp only [e1, h1, h2, ih, List.append_assoc]⟩
    · have e1 : sqIt xs i S = some none := by
        unfold sqIt
        rw [List.getElem?_eq_none (by omega)]
      exact ⟨[], by simp only [e1, List.append_nil]⟩
theorem lc_none {vs : List Nat} {t : Tgt} {it : M Sq} {c : M Bool} {el : M D} {ρ : Env} {S S1 : Sto} {xs : List D} (hi : it ρ S = some (.val (sqIt xs) S1)) (hl : xs.length < fuel) (h : ∀ x ∈ xs, ∀ S, ∃ ρ1 G, t x (wipeE ρ vs) S = some ρ1 ∧ c ρ1 S = some (.val false (S ++ G))) :
    ∃ G, mLc vs t it c el ρ S = some (.val (.ref S1.length) (S1 ++ (.lst [] :: G))) := by
  obtain ⟨G, e⟩ := loopC_none (el := el) (n0 := S1.length) h fuel 0 (S1 ++ [.lst []]) (by omega)
  refine ⟨G, ?_⟩
  unfold mLc mB
  rw [hi]
  dsimp only
  rw [e]
  dsimp only
  rw [List.append_assoc, List.singleton_append]
/-- a comprehension that takes all, each worked out to f of it -/
theorem loopC_all {t : Tgt} {el : M D} {ρ0 : Env} {S0 : Sto} {xs : List D} {f : D → D} (h : ∀ x ∈ xs, ∀ S, ∃ ρ1 G, t x ρ0 S = some ρ1 ∧ el ρ1 S = some (.val (f x) (S ++ G))) (hs : xs.length < 1000) : ∀ (n i : Nat) (acc : List D) (G0 : Sto), xs.length - i < n → acc.length + (xs.length - i) < 1000 → ∃ G, loopC t mYes el (sqIt xs) ρ0 S0.length n i (S0 ++ (.lst acc :: G0)) = some (S0 ++ (.lst (acc ++ (xs.drop i).map f) :: G))
  | 0, i, acc, G0, hn, _ => absurd hn (by omega)
  | n + 1, i, acc, G0, hn, ha => by
    rw [loopC]
    by_cases k : i < xs.length
    · have e1 : sqIt xs i (S0 ++ (.lst acc :: G0)) = some (some xs[i]) := by
        unfold sqIt
        rw [List.getElem?_eq_getElem k]
      obtain ⟨ρ1, G, h1, h2⟩ := h xs[i] (List.getElem_mem k) (S0 ++ (.lst acc :: G0))
      have e3 : (S0 ++ (O.lst acc :: G0) ++ G)[S0.length]? = some (.lst acc) := by
        rw [List.append_assoc, List.getElem?_append_right (Nat.le_refl _), Nat.sub_self]
        rfl
      have e4 : (S0 ++ (O.lst acc :: G0) ++ G).set S0.length (.lst (acc ++ [f xs[i]])) = S0 ++ (.lst (acc ++ [f xs[i]]) :: (G0 ++ G)) := by
        rw [List.append_assoc, List.set_append_right _ _ (Nat.le_refl _), Nat.sub_self]
        rfl
      obtain ⟨G', ih⟩ := loopC_all (S0 := S0) h hs n (i + 1) (acc ++ [f xs[i]]) (G0 ++ G) (by omega) (by rw [List.length_append, List.length_singleton]; omega)
      refine ⟨G', ?_⟩
      have ey : mYes ρ1 (S0 ++ (.lst acc :: G0)) = some (.val true (S0 ++ (.lst acc :: G0))) := rfl
      simp only [e1, h1, ey, h2, e3, if_pos (show acc.length < 1000000 by omega), e4]
      rw [ih, List.append_assoc, List.singleton_append, List.drop_eq_getElem_cons k, List.map_cons]
    · have e1 : sqIt xs i (S0 ++ (.lst acc :: G0)) = some none := by
        unfold sqIt
        rw [List.getElem?_eq_none (by omega)]
      refine ⟨G0, ?_⟩
      rw [List.drop_eq_nil_of_le (by omega), List.map_nil, List.append_nil]
      simp only [e1]
theorem lc_all {vs : List Nat} {t : Tgt} {it : M Sq} {el : M D} {ρ : Env} {S S1 : Sto} {xs : List D} {f : D → D} (hi : it ρ S = some (.val (sqIt xs) S1)) (hl : xs.length < 1000) (h : ∀ x ∈ xs, ∀ S, ∃ ρ1 G, t x (wipeE ρ vs) S = some ρ1 ∧ el ρ1 S = some (.val (f x) (S ++ G))) :
    ∃ G, mLc vs t it mYes el ρ S = some (.val (.ref S1.length) (S1 ++ (.lst (xs.map f) :: G))) := by
  obtain ⟨G, e⟩ := loopC_all (S0 := S1) h hl fuel 0 [] [] (lt_fuel (k := 10) (by omega) (by omega)) (by rw [List.length_nil]; omega)
  refine ⟨G, ?_⟩
  unfold mLc mB
  rw [hi]
  dsimp only
  rw [show S1 ++ [O.lst []] = S1 ++ (O.lst [] :: []) from rfl, e]
  dsimp only
  rw [List.drop_zero, List.nil_append]
theorem isi {a : D} {T n : String} {b : Bool} {S : Sto} (h : tyD S a = some n) (k : kitB n T = some b) : gIsi [a, .ty T] S = some (.bl b, S) := by
  unfold gIsi
  dsimp only
  rw [h, Option.bind_some, k]
  rfl
theorem kit1 : kitB "int" "tuple" = some false := by decide +kernel
theorem kit2 : kitB "int" "list" = some false := by decide +kernel
theorem kit3 : kitB "int" "int" = some true := by decide +kernel
theorem kit4 : kitB "int" "bool" = some false := by decide +kernel
theorem kit5 : kitB "tuple" "tuple" = some true := by decide +kernel
theorem kit6 : kitB "tuple" "list" = some false := by decide +kernel
theorem kit7 : kitB "list" "tuple" = some false := by decide +kernel
theorem kit8 : kitB "list" "list" = some true := by decide +kernel
theorem is_int {i : Int} {S : Sto} {d : D} (h : d = .non ∨ d = .bl true ∨ d = .bl false) : gIs (.int i) d S = some (.bl false, S) := by
  rcases h with rfl | rfl | rfl <;> rfl
end Rf
namespace Rf
open PySem PySem.Spec PyProof.Rows L2
section
variable {ρ : Env} {S S1 S2 S3 : Sto} {a b c d : D} {as : List D} {ma mb m : M D} {ms : M (List D)} {g : G2}
theorem v_var {i : Nat} (h : ρ[i]? = some (some d)) : mVar i ρ S = some (.val d S) := by
  unfold mVar
  rw [h]
theorem v_ret {α : Type} {a : α} : mRet a ρ S = some (.val a S) := rfl
theorem v_op (ha : ma ρ S = some (.val a S1)) (hb : mb ρ S1 = some (.val b S2)) (hg : g a b S2 = some (c, S3)) : mOp g ma mb ρ S = some (.val c S3) := by
  unfold mOp mB
  simp only [ha, hb, hg]
theorem v_un {g : G1} (ha : ma ρ S = some (.val a S1)) (hg : g a S1 = some (c, S2)) : mUn g ma ρ S = some (.val c S2) := by
  unfold mUn mB
  simp only [ha, hg]
theorem v_bi {g : GN} (ha : ms ρ S = some (.val as S1)) (hg : g as S1 = some (c, S2)) : mBi g ms ρ S = some (.val c S2) := by
  unfold mBi mB
  simp only [ha, hg]
theorem v_nil : mNil ρ S = some (.val [] S) := rfl
theorem v_cons (ha : ma ρ S = some (.val a S1)) (hs : ms ρ S1 = some (.val as S2)) : mCons ma ms ρ S = some (.val (a :: as) S2) := by
  unfold mCons mB
  simp only [ha, hs]
  rfl
theorem v_call {F : List D → Sto → Option (R D)} {r : Option (R D)} (ha : ms ρ S = some (.val as S1)) (hF : F as S1 = r) : mCall F ms ρ S = r := by
  unfold mCall mB
  simp only [ha, hF]
theorem v_tup (ha : ms ρ S = some (.val as S1)) (hl : as.length ≤ 1000) : mTup ms ρ S = some (.val (.tup as) S1) := by
  unfold mTup mB
  simp only [ha, if_pos hl]
  rfl
theorem v_lst (ha : ms ρ S = some (.val as S1)) (hl : as.length ≤ 1000) : mLst ms ρ S = some (.val (.ref S1.length) (S1 ++ [.lst as])) := by
  unfold mLst mB
  simp only [ha, if_pos hl]
  rfl
theorem v_T {k : Bool} (ha : ma ρ S = some (.val (.bl k) S1)) : mT ma ρ S = some (.val k S1) := by
  unfold mT mB
  simp only [ha]
  rfl
theorem v_tru {k : Bool} (ha : ma ρ S = some (.val a S1)) (h : truD a S1 = some k) : mTru ma ρ S = some (.val k S1) := by
  unfold mTru mB
  simp only [ha, h]
theorem v_not {m : M Bool} {k : Bool} (h : m ρ S = some (.val k S1)) : mNotB m ρ S = some (.val (!k) S1) := by
  unfold mNotB mB
  simp only [h]
  rfl
theorem v_or_f {m m' : M Bool} {r : Option (R Bool)} (h : m ρ S = some (.val false S1)) (h' : m' ρ S1 = r) : mOr m m' ρ S = r := by
  unfold mOr mB
  simp only [h, h']
theorem v_or_t {m m' : M Bool} (h : m ρ S = some (.val true S1)) : mOr m m' ρ S = some (.val true S1) := by
  unfold mOr mB
  simp only [h]
  rfl
theorem v_and_t {m m' : M Bool} {r : Option (R Bool)} (h : m ρ S = some (.val true S1)) (h' : m' ρ S1 = r) : mAnd m m' ρ S = r := by
  unfold mAnd mB
  simp only [h, h']
theorem v_and_f {m m' : M Bool} (h : m ρ S = some (.val false S1)) : mAnd m m' ρ S = some (.val false S1) := by
  unfold mAnd mB
  simp only [h]
  rfl
theorem v_seq {q : Sq} (ha : ma ρ S = some (.val a S1)) (h : sqOf S1 a = some q) : mSeq ma ρ S = some (.val q S1) := by
  unfold mSeq mB
  simp only [ha, h]
theorem nil_eq : sNil ρ S = some (.nx ρ S) := rfl
theorem ex_eq (ha : ma ρ S = some (.val a S1)) : sEx ma ρ S = some (.nx ρ S1) := by
  unfold sEx sB
  simp only [ha]
/-- if c: .. (not taken, nothing else) -/
theorem skip {mc : M Bool} {x : MS} (h : mc ρ S = some (.val false S1)) : sIf mc x sNil ρ S = some (.nx ρ S1) := if_f h rfl
end
theorem len_tup {xs : List D} {S : Sto} : gLen [.tup xs] S = some (.int xs.length, S) := rfl
theorem len_ref {i : Nat} {xs : List D} {S : Sto} (h : S[i]? = some (.lst xs)) : gLen [.ref i] S = some (.int xs.length, S) := by
  unfold gLen itemsOf
  simp only [h, Option.map_some]
theorem nth_last {S G : Sto} {o : O} : (S ++ (o :: G))[S.length]? = some o := by
  rw [List.getElem?_append_right (Nat.le_refl _), Nat.sub_self]
  rfl
theorem rngOk_nat {n : Nat} (h : n < 2 ^ 60) : rngOk (n : Int) = true := by
  unfold rngOk
  rw [Bool.and_eq_true]
  exact ⟨decide_eq_true (by omega), decide_eq_true (by omega)⟩
theorem rngD_len {lo : Int} {n : Nat} : (rngD lo n).length = n := by
  unfold rngD
  rw [List.length_map, List.length_range]
theorem rngD_mem {n : Nat} {x : D} (h : x ∈ rngD 0 n) : ∃ k : Nat, k < n ∧ x = .int (k : Int) := by
  unfold rngD at h
  obtain ⟨k, hk, e⟩ := List.mem_map.mp h
  exact ⟨k, List.mem_range.mp hk, by rw [← e]; simp⟩
end Rf
namespace Rf
open PySem PySem.Spec PyProof.Rows L2
/-! ### sizes -/
def szI (n : Nat) (i : Int) : Prop := i.natAbs < 2 ^ n
theorem szI.mono {n m : Nat} {i : Int} (h : szI n i) (k : n ≤ m) : szI m i := Nat.lt_of_lt_of_le h (Nat.pow_le_pow_right (by decide) k)
theorem szI.mul {n m : Nat} {i j : Int} (h : szI n i) (k : szI m j) : szI (n + m) (i * j) := by
  unfold szI at *
  rw [Int.natAbs_mul, Nat.pow_add]
  exact Nat.mul_lt_mul'' h k
theorem szI.add {n m : Nat} {i j : Int} (h : szI n i) (k : szI m j) : szI (max n m + 1) (i + j) := by
  have h1 := h.mono (Nat.le_max_left n m)
  have k1 := k.mono (Nat.le_max_right n m)
  unfold szI at *
  rw [Nat.pow_succ]
  omega
theorem szI.neg {n : Nat} {i : Int} (h : szI n i) : szI n (-i) := by
  unfold szI at *
  rw [Int.natAbs_neg]
  exact h
theorem szI.le {n : Nat} {i j : Int} (h : szI n i) (k : j.natAbs ≤ i.natAbs) : szI n j := Nat.lt_of_le_of_lt k h
theorem szI.log {n : Nat} {i : Int} (h : szI n i) (h0 : 0 < n) : i.natAbs.log2 < n := PySem.Flt.log2_lt_of h0 h
theorem mulOk_sz {n m : Nat} {i j : Int} (h : szI n i) (k : szI m j) (h0 : 0 < n := by omega) (k0 : 0 < m := by omega) (s : n + m ≤ 900000 := by omega) : mulOk i j = true := by
  have h1 := h.log h0
  have k1 := k.log k0
  unfold mulOk
  rw [Bool.or_eq_true]
  exact .inr (decide_eq_true (by omega))
theorem divOk_sz {n : Nat} {i j : Int} (z : j ≠ 0) (h : szI n j) (h0 : 0 < n := by omega) (s : n ≤ 9000 := by omega) : divOk i j = true := by
  have h1 := h.log h0
  unfold divOk
  rw [Bool.and_eq_true]
  exact ⟨decide_eq_true z, decide_eq_true (by omega)⟩
/-! ### fractions -/
/-- a number -/
def nq (q : Rat) : D := .tup [.int q.num, .int (q.den : Int)]
def sz (n : Nat) (q : Rat) : Prop := szI n q.num ∧ szI n (q.den : Int)
theorem sz.mono {n m : Nat} {q : Rat} (h : sz n q) (k : n ≤ m) : sz m q := ⟨h.1.mono k, h.2.mono k⟩
theorem nq_of {q : Rat} {n d : Int} (h1 : n = q.num) (h2 : d = (q.den : Int)) : D.tup [.int n, .int d] = nq q := by
  rw [h1, h2]
  rfl
theorem norm_sz {n : Nat} {a : Int} {b : Nat} (hb : b ≠ 0) (ha : szI n a) (h : szI n (b : Int)) : sz n (Rat.normalize a b hb) := by
  rw [Rat.normalize_eq]
  refine ⟨ha.le ?_, h.le ?_⟩
  · show (a / ((a.natAbs.gcd b : Nat) : Int)).natAbs ≤ a.natAbs
    exact Int.natAbs_ediv_le_natAbs _ _
  · show ((b / a.natAbs.gcd b : Nat) : Int).natAbs ≤ ((b : Nat) : Int).natAbs
    exact Nat.div_le_self _ _
theorem sz_add {n m : Nat} {x y : Rat} (hx : sz n x) (hy : sz m y) : sz (n + m + 1) (x + y) := by
  rw [Rat.add_def]
  refine norm_sz _ ?_ ?_
  · have := (hx.1.mul hy.2).add (hy.1.mul hx.2)
    exact this.mono (by omega)
  · have := hx.2.mul hy.2
    rw [Int.natCast_mul]
    exact this.mono (by omega)
theorem sz_mul {n m : Nat} {x y : Rat} (hx : sz n x) (hy : sz m y) : sz (n + m) (x * y) := by
  rw [Rat.mul_def]
  refine norm_sz _ (hx.1.mul hy.1) ?_
  rw [Int.natCast_mul]
  exact hx.2.mul hy.2
theorem sz_neg {n : Nat} {x : Rat} (hx : sz n x) : sz n (-x) := ⟨by rw [Rat.neg_num]; exact hx.1.neg, hx.2⟩
theorem den_ne (q : Rat) : (q.den : Int) ≠ 0 := by
  have := q.den_pos
  omega
theorem gcd_pos_r {a b : Nat} (h : 0 < b) : 0 < a.gcd b := Nat.gcd_pos_of_pos_right _ h
theorem fdiv_nat {a : Int} {g : Nat} : a.fdiv (g : Int) = a / (g : Int) := Int.fdiv_eq_ediv_of_nonneg a (by omega)
/-- the sum, as the program reckons it -/
theorem add_parts (x y : Rat) : (x.den.gcd y.den = 1 → (x + y).num = x.num * y.den + x.den * y.num ∧ ((x + y).den : Int) = x.den * y.den) ∧
    (x.den.gcd y.den ≠ 1 → (x + y).num = (x.num * ((y.den : Int) / (x.den.gcd y.den : Nat)) + y.num * ((x.den : Int) / (x.den.gcd y.den : Nat))) / (((x.num * ((y.den : Int) / (x.den.gcd y.den : Nat)) + y.num * ((x.den : Int) / (x.den.gcd y.den : Nat))).natAbs.gcd (x.den.gcd y.den) : Nat) : Int) ∧
      ((x + y).den : Int) = ((x.den : Int) / (x.den.gcd y.den : Nat)) * ((y.den : Int) / (((x.num * ((y.den : Int) / (x.den.gcd y.den : Nat)) + y.num * ((x.den : Int) / (x.den.gcd y.den : Nat))).natAbs.gcd (x.den.gcd y.den) : Nat) : Int))) := by
  refine ⟨fun h => ?_, fun h => ?_⟩
  · show (Rat.add x y).num = _ ∧ ((Rat.add x y).den : Int) = _
    unfold Rat.add
    simp only [h, dite_true]
    exact ⟨by rw [Int.mul_comm y.num], by rw [Int.natCast_mul]⟩
  · show (Rat.add x y).num = _ ∧ ((Rat.add x y).den : Int) = _
    unfold Rat.add
    simp only [h, dite_false]
    rw [Rat.maybeNormalize_eq]
    simp only [Int.natCast_ediv]
    refine ⟨rfl, ?_⟩
    rw [Int.natCast_mul, Int.natCast_ediv]
    generalize hk : (x.num * ((y.den : Int) / (x.den.gcd y.den : Nat)) + y.num * ((x.den : Int) / (x.den.gcd y.den : Nat))).natAbs.gcd (x.den.gcd y.den) = k
    refine Int.mul_ediv_assoc _ ?_
    have h1 : k ∣ x.den.gcd y.den := by rw [← hk]; exact Nat.gcd_dvd_right _ _
    exact Int.ofNat_dvd.mpr (Nat.dvd_trans h1 (Nat.gcd_dvd_right _ _))
end Rf
namespace Rf
open PySem PySem.Spec PyProof.Rows L2
theorem mul_parts (x y : Rat) : (x * y).num = x.num / ((x.num.natAbs.gcd y.den : Nat) : Int) * (y.num / ((y.num.natAbs.gcd x.den : Nat) : Int)) ∧ ((x * y).den : Int) = (x.den : Int) / ((y.num.natAbs.gcd x.den : Nat) : Int) * ((y.den : Int) / ((x.num.natAbs.gcd y.den : Nat) : Int)) := by
  have e : x * y = Rat.mul x y := rfl
  rw [e]
  unfold Rat.mul
  simp only [Int.divExact_eq_ediv, Nat.divExact_eq_div]
  exact ⟨trivial, by rw [Int.natCast_mul, Int.natCast_ediv, Int.natCast_ediv]⟩
end Rf
namespace Gn
open PySem PySem.Spec PyProof.Rows L2 Rf
def topS (i : Nat) : Stmt := PySem.Challenge.pw_rootfast_k03_sums_and_products.main.body.getD i (.Pass ⟨0, 0, 0, 0⟩)
abbrev s_plus : Stmt := topS 5
abbrev s_minus : Stmt := topS 6
abbrev s_times : Stmt := topS 7
abbrev s_over : Stmt := topS 8
abbrev s_compare : Stmt := topS 9
abbrev s_whole_power : Stmt := topS 10
abbrev s_power : Stmt := topS 11
abbrev s__law_cell : Stmt := topS 13
abbrev s__law_draws : Stmt := topS 14
abbrev s__law_is_int : Stmt := topS 15
abbrev s__law_is_text : Stmt := topS 16
abbrev s__law_is_number : Stmt := topS 17
abbrev s__law_gcd : Stmt := topS 18
abbrev s__law_frac : Stmt := topS 19
abbrev s__law_add : Stmt := topS 20
abbrev s__law_neg : Stmt := topS 21
abbrev s__law_sub : Stmt := topS 22
abbrev s__law_mul : Stmt := topS 23
abbrev s__law_over : Stmt := topS 24
abbrev s__law_power : Stmt := topS 25
abbrev s__law_sign : Stmt := topS 26
abbrev s__law_same : Stmt := topS 27
abbrev s__law_any_number : Stmt := topS 28
abbrev s__law_quotient : Stmt := topS 29
abbrev s_law : Stmt := topS 30
theorem sc_plus : FnScope ["x", "y", "a", "b", "c", "d", "common", "above", "left"] ["x", "y"] (defScope s_plus) := ⟨rfl, rfl, rfl, by decide +kernel, rfl, by decide +kernel, by decide +kernel⟩
theorem sc_minus : FnScope ["x", "y"] ["x", "y"] (defScope s_minus) := ⟨rfl, rfl, rfl, by decide +kernel, rfl, by decide +kernel, by decide +kernel⟩
theorem sc_times : FnScope ["x", "y", "a", "b", "c", "d", "first", "second"] ["x", "y"] (defScope s_times) := ⟨rfl, rfl, rfl, by decide +kernel, rfl, by decide +kernel, by decide +kernel⟩
theorem sc_over : FnScope ["x", "y", "c", "d"] ["x", "y"] (defScope s_over) := ⟨rfl, rfl, rfl, by decide +kernel, rfl, by decide +kernel, by decide +kernel⟩
theorem sc_compare : FnScope ["x", "y", "left", "right"] ["x", "y"] (defScope s_compare) := ⟨rfl, rfl, rfl, by decide +kernel, rfl, by decide +kernel, by decide +kernel⟩
theorem sc_whole_power : FnScope ["a", "k", "result", "bit"] ["a", "k"] (defScope s_whole_power) := ⟨rfl, rfl, rfl, by decide +kernel, rfl, by decide +kernel, by decide +kernel⟩
theorem sc_power : FnScope ["x", "k"] ["x", "k"] (defScope s_power) := ⟨rfl, rfl, rfl, by decide +kernel, rfl, by decide +kernel, by decide +kernel⟩
theorem sc__law_cell : FnScope ["script", "k"] ["script", "k"] (defScope s__law_cell) := ⟨rfl, rfl, rfl, by decide +kernel, rfl, by decide +kernel, by decide +kernel⟩
theorem sc__law_draws : FnScope ["cell", "count", "rows", "left", "k", "mixed"] ["cell", "count"] (defScope s__law_draws) := ⟨rfl, rfl, rfl, by decide +kernel, rfl, by decide +kernel, by decide +kernel⟩
theorem sc__law_is_int : FnScope ["x"] ["x"] (defScope s__law_is_int) := ⟨rfl, rfl, rfl, by decide +kernel, rfl, by decide +kernel, by decide +kernel⟩
theorem sc__law_is_text : FnScope ["x", "due"] ["x", "due"] (defScope s__law_is_text) := ⟨rfl, rfl, rfl, by decide +kernel, rfl, by decide +kernel, by decide +kernel⟩
theorem sc__law_is_number : FnScope ["x", "due"] ["x", "due"] (defScope s__law_is_number) := ⟨rfl, rfl, rfl, by decide +kernel, rfl, by decide +kernel, by decide +kernel⟩
theorem sc__law_gcd : FnScope ["a", "b"] ["a", "b"] (defScope s__law_gcd) := ⟨rfl, rfl, rfl, by decide +kernel, rfl, by decide +kernel, by decide +kernel⟩
theorem sc__law_frac : FnScope ["a", "b", "common"] ["a", "b"] (defScope s__law_frac) := ⟨rfl, rfl, rfl, by decide +kernel, rfl, by decide +kernel, by decide +kernel⟩
theorem sc__law_add : FnScope ["x", "y"] ["x", "y"] (defScope s__law_add) := ⟨rfl, rfl, rfl, by decide +kernel, rfl, by decide +kernel, by decide +kernel⟩
theorem sc__law_neg : FnScope ["x"] ["x"] (defScope s__law_neg) := ⟨rfl, rfl, rfl, by decide +kernel, rfl, by decide +kernel, by decide +kernel⟩
theorem sc__law_sub : FnScope ["x", "y"] ["x", "y"] (defScope s__law_sub) := ⟨rfl, rfl, rfl, by decide +kernel, rfl, by decide +kernel, by decide +kernel⟩
theorem sc__law_mul : FnScope ["x", "y"] ["x", "y"] (defScope s__law_mul) := ⟨rfl, rfl, rfl, by decide +kernel, rfl, by decide +kernel, by decide +kernel⟩
theorem sc__law_over : FnScope ["x", "y"] ["x", "y"] (defScope s__law_over) := ⟨rfl, rfl, rfl, by decide +kernel, rfl, by decide +kernel, by decide +kernel⟩
theorem sc__law_power : FnScope ["x", "k", "found", "turn"] ["x", "k"] (defScope s__law_power) := ⟨rfl, rfl, rfl, by decide +kernel, rfl, by decide +kernel, by decide +kernel⟩
theorem sc__law_sign : FnScope ["x"] ["x"] (defScope s__law_sign) := ⟨rfl, rfl, rfl, by decide +kernel, rfl, by decide +kernel, by decide +kernel⟩
theorem sc__law_same : FnScope ["x", "due", "k"] ["x", "due"] (defScope s__law_same) := ⟨rfl, rfl, rfl, by decide +kernel, rfl, by decide +kernel, by decide +kernel⟩
theorem sc__law_any_number : FnScope ["draw", "more", "great"] ["draw", "more"] (defScope s__law_any_number) := ⟨rfl, rfl, rfl, by decide +kernel, rfl, by decide +kernel, by decide +kernel⟩
theorem sc__law_quotient : FnScope ["x", "y"] ["x", "y"] (defScope s__law_quotient) := ⟨rfl, rfl, rfl, by decide +kernel, rfl, by decide +kernel, by decide +kernel⟩
theorem sc_law : FnScope ["script", "turn", "draws", "x", "y", "k", "due"] ["script"] (defScope s_law) := ⟨rfl, rfl, rfl, by decide +kernel, rfl, by decide +kernel, by decide +kernel⟩
structure Adr where
  f_plus : Addr
  d_plus : FuncData
  f_minus : Addr
  d_minus : FuncData
  f_times : Addr
  d_times : FuncData
  f_over : Addr
  d_over : FuncData
  f_compare : Addr
  d_compare : FuncData
  f_whole_power : Addr
  d_whole_power : FuncData
  f_power : Addr
  d_power : FuncData
  f__law_cell : Addr
  d__law_cell : FuncData
  f__law_draws : Addr
  d__law_draws : FuncData
  f__law_is_int : Addr
  d__law_is_int : FuncData
  f__law_is_text : Addr
  d__law_is_text : FuncData
  f__law_is_number : Addr
  d__law_is_number : FuncData
  f__law_gcd : Addr
  d__law_gcd : FuncData
  f__law_frac : Addr
  d__law_frac : FuncData
  f__law_add : Addr
  d__law_add : FuncData
  f__law_neg : Addr
  d__law_neg : FuncData
  f__law_sub : Addr
  d__law_sub : FuncData
  f__law_mul : Addr
  d__law_mul : FuncData
  f__law_over : Addr
  d__law_over : FuncData
  f__law_power : Addr
  d__law_power : FuncData
  f__law_sign : Addr
  d__law_sign : FuncData
  f__law_same : Addr
  d__law_same : FuncData
  f__law_any_number : Addr
  d__law_any_number : FuncData
  f__law_quotient : Addr
  d__law_quotient : FuncData
  f_law : Addr
  d_law : FuncData
  c_RootfastError : Addr
  c_BadNumber : Addr
def ecOf (a : Adr) : Str → Value := fun x => if x = "RootfastError" then .ref a.c_RootfastError else if x = "BadNumber" then .ref a.c_BadNumber else .none
theorem ec_RootfastError (a : Adr) : ecOf a "RootfastError" = .ref a.c_RootfastError := by rfl
theorem ec_BadNumber (a : Adr) : ecOf a "BadNumber" = .ref a.c_BadNumber := by rfl
structure Txt (K : PySem.W.Frag) (mg : Str → Option Value) (a : Adr) : Prop where
  F_plus : Fun K "plus" "plus" s_plus a.f_plus a.d_plus
  b_plus : Binds K a.d_plus ["x", "y"] []
  g_plus : mg "plus" = some (.ref a.f_plus)
  F_minus : Fun K "minus" "minus" s_minus a.f_minus a.d_minus
  b_minus : Binds K a.d_minus ["x", "y"] []
  g_minus : mg "minus" = some (.ref a.f_minus)
  F_times : Fun K "times" "times" s_times a.f_times a.d_times
  b_times : Binds K a.d_times ["x", "y"] []
  g_times : mg "times" = some (.ref a.f_times)
  F_over : Fun K "over" "over" s_over a.f_over a.d_over
  b_over : Binds K a.d_over ["x", "y"] []
  g_over : mg "over" = some (.ref a.f_over)
  F_compare : Fun K "compare" "compare" s_compare a.f_compare a.d_compare
  b_compare : Binds K a.d_compare ["x", "y"] []
  g_compare : mg "compare" = some (.ref a.f_compare)
  F_whole_power : Fun K "whole_power" "whole_power" s_whole_power a.f_whole_power a.d_whole_power
  b_whole_power : Binds K a.d_whole_power ["a", "k"] []
  g_whole_power : mg "whole_power" = some (.ref a.f_whole_power)
  F_power : Fun K "power" "power" s_power a.f_power a.d_power
  b_power : Binds K a.d_power ["x", "k"] []
  g_power : mg "power" = some (.ref a.f_power)
  F__law_cell : Fun K "_law_cell" "_law_cell" s__law_cell a.f__law_cell a.d__law_cell
  b__law_cell : Binds K a.d__law_cell ["script", "k"] []
  g__law_cell : mg "_law_cell" = some (.ref a.f__law_cell)
  F__law_draws : Fun K "_law_draws" "_law_draws" s__law_draws a.f__law_draws a.d__law_draws
  b__law_draws : Binds K a.d__law_draws ["cell", "count"] []
  g__law_draws : mg "_law_draws" = some (.ref a.f__law_draws)
  F__law_is_int : Fun K "_law_is_int" "_law_is_int" s__law_is_int a.f__law_is_int a.d__law_is_int
  b__law_is_int : Binds K a.d__law_is_int ["x"] []
  g__law_is_int : mg "_law_is_int" = some (.ref a.f__law_is_int)
  F__law_is_text : Fun K "_law_is_text" "_law_is_text" s__law_is_text a.f__law_is_text a.d__law_is_text
  b__law_is_text : Binds K a.d__law_is_text ["x", "due"] []
  g__law_is_text : mg "_law_is_text" = some (.ref a.f__law_is_text)
  F__law_is_number : Fun K "_law_is_number" "_law_is_number" s__law_is_number a.f__law_is_number a.d__law_is_number
  b__law_is_number : Binds K a.d__law_is_number ["x", "due"] []
  g__law_is_number : mg "_law_is_number" = some (.ref a.f__law_is_number)
  F__law_gcd : Fun K "_law_gcd" "_law_gcd" s__law_gcd a.f__law_gcd a.d__law_gcd
  b__law_gcd : Binds K a.d__law_gcd ["a", "b"] []
  g__law_gcd : mg "_law_gcd" = some (.ref a.f__law_gcd)
  F__law_frac : Fun K "_law_frac" "_law_frac" s__law_frac a.f__law_frac a.d__law_frac
  b__law_frac : Binds K a.d__law_frac ["a", "b"] []
  g__law_frac : mg "_law_frac" = some (.ref a.f__law_frac)
  F__law_add : Fun K "_law_add" "_law_add" s__law_add a.f__law_add a.d__law_add
  b__law_add : Binds K a.d__law_add ["x", "y"] []
  g__law_add : mg "_law_add" = some (.ref a.f__law_add)
  F__law_neg : Fun K "_law_neg" "_law_neg" s__law_neg a.f__law_neg a.d__law_neg
  b__law_neg : Binds K a.d__law_neg ["x"] []
  g__law_neg : mg "_law_neg" = some (.ref a.f__law_neg)
  F__law_sub : Fun K "_law_sub" "_law_sub" s__law_sub a.f__law_sub a.d__law_sub
  b__law_sub : Binds K a.d__law_sub ["x", "y"] []
  g__law_sub : mg "_law_sub" = some (.ref a.f__law_sub)
  F__law_mul : Fun K "_law_mul" "_law_mul" s__law_mul a.f__law_mul a.d__law_mul
  b__law_mul : Binds K a.d__law_mul ["x", "y"] []
  g__law_mul : mg "_law_mul" = some (.ref a.f__law_mul)
  F__law_over : Fun K "_law_over" "_law_over" s__law_over a.f__law_over a.d__law_over
  b__law_over : Binds K a.d__law_over ["x", "y"] []
  g__law_over : mg "_law_over" = some (.ref a.f__law_over)
  F__law_power : Fun K "_law_power" "_law_power" s__law_power a.f__law_power a.d__law_power
  b__law_power : Binds K a.d__law_power ["x", "k"] []
  g__law_power : mg "_law_power" = some (.ref a.f__law_power)
  F__law_sign : Fun K "_law_sign" "_law_sign" s__law_sign a.f__law_sign a.d__law_sign
  b__law_sign : Binds K a.d__law_sign ["x"] []
  g__law_sign : mg "_law_sign" = some (.ref a.f__law_sign)
  F__law_same : Fun K "_law_same" "_law_same" s__law_same a.f__law_same a.d__law_same
  b__law_same : Binds K a.d__law_same ["x", "due"] []
  g__law_same : mg "_law_same" = some (.ref a.f__law_same)
  F__law_any_number : Fun K "_law_any_number" "_law_any_number" s__law_any_number a.f__law_any_number a.d__law_any_number
  b__law_any_number : Binds K a.d__law_any_number ["draw", "more"] []
  g__law_any_number : mg "_law_any_number" = some (.ref a.f__law_any_number)
  F__law_quotient : Fun K "_law_quotient" "_law_quotient" s__law_quotient a.f__law_quotient a.d__law_quotient
  b__law_quotient : Binds K a.d__law_quotient ["x", "y"] []
  g__law_quotient : mg "_law_quotient" = some (.ref a.f__law_quotient)
  F_law : Fun K "law" "law" s_law a.f_law a.d_law
  b_law : Binds K a.d_law ["script"] []
  g_law : mg "law" = some (.ref a.f_law)
  z_abs : mg "abs" = none
  z_bool : mg "bool" = none
  z_int : mg "int" = none
  z_isinstance : mg "isinstance" = none
  z_len : mg "len" = none
  z_list : mg "list" = none
  z_range : mg "range" = none
  z_reversed : mg "reversed" = none
  z_str : mg "str" = none
  z_tuple : mg "tuple" = none
  z_gcd : mg "gcd" = some (.builtin "math.gcd")
  g_BadNumber : mg "BadNumber" = some (.ref a.c_BadNumber)
  x_BadNumber : PySem.W.excIn K a.c_BadNumber [.type "ValueError", .type "Exception", .type "BaseException", .type "object"] "ValueError.__new__" = true
  k_BadNumber : PySem.W.keepIn K (.ref a.c_BadNumber) = true
  s_BadNumber : PySem.W.subIn K (.ref a.c_BadNumber) (.type "BaseException") = some true
  t_BadNumber : PySem.W.typeIn K (.ref a.c_BadNumber) = some (.type "type")
  i_BadNumber : PySem.W.isClsIn K a.c_BadNumber = true
  u_BadNumber : PySem.W.subIn K (.ref a.c_BadNumber) (.ref a.c_BadNumber) = some true
/-! ### the defs, by values -/
theorem mNilL : ∀ (ρ : Rf.Env) (S : Sto) (ds : List D) (S' : Sto), mNil ρ S = some (.val ds S') → ds.length = 0 := fun _ _ _ _ h => mNil_len h
def m_plus : MS :=
    (sSeq (sAsg (tTp 2 (tCons' (tN 2) (tCons' (tN 3) tNil'))) (mVar 0))
    (sSeq (sAsg (tTp 2 (tCons' (tN 4) (tCons' (tN 5) tNil'))) (mVar 1))
    (sSeq (sSet 6 (mBi gGcd (mCons (mVar 3) (mCons (mVar 5) mNil))))
    (sSeq (sIf (mT (mOp gEq (mVar 6) (mRet (.int 1)))) (sRet (mTup (mCons (mOp gAdd (mOp gMul (mVar 2) (mVar 5)) (mOp gMul (mVar 3) (mVar 4))) (mCons (mOp gMul (mVar 3) (mVar 5)) mNil)))) sNil)
    (sSeq (sSet 7 (mOp gAdd (mOp gMul (mVar 2) (mOp gDiv (mVar 5) (mVar 6))) (mOp gMul (mVar 4) (mOp gDiv (mVar 3) (mVar 6)))))
    (sSeq (sSet 8 (mBi gGcd (mCons (mVar 7) (mCons (mVar 6) mNil))))
    (sRet (mTup (mCons (mOp gDiv (mVar 7) (mVar 8)) (mCons (mOp gMul (mOp gDiv (mVar 3) (mVar 6)) (mOp gDiv (mVar 5) (mVar 8))) mNil))))))))))
def F_plus : List D → Sto → Option (R D) := fnOf 9 m_plus
def m_times : MS :=
    (sSeq (sAsg (tTp 2 (tCons' (tN 2) (tCons' (tN 3) tNil'))) (mVar 0))
    (sSeq (sAsg (tTp 2 (tCons' (tN 4) (tCons' (tN 5) tNil'))) (mVar 1))
    (sSeq (sSet 6 (mBi gGcd (mCons (mVar 2) (mCons (mVar 5) mNil))))
    (sSeq (sSet 7 (mBi gGcd (mCons (mVar 4) (mCons (mVar 3) mNil))))
    (sRet (mTup (mCons (mOp gMul (mOp gDiv (mVar 2) (mVar 6)) (mOp gDiv (mVar 4) (mVar 7))) (mCons (mOp gMul (mOp gDiv (mVar 3) (mVar 7)) (mOp gDiv (mVar 5) (mVar 6))) mNil))))))))
def F_times : List D → Sto → Option (R D) := fnOf 8 m_times
def m_compare : MS :=
    (sSeq (sSet 2 (mOp gMul (mOp gIx (mVar 0) (mRet (.int 0))) (mOp gIx (mVar 1) (mRet (.int 1)))))
    (sSeq (sSet 3 (mOp gMul (mOp gIx (mVar 1) (mRet (.int 0))) (mOp gIx (mVar 0) (mRet (.int 1)))))
    (sSeq (sIf (mT (mOp gLt (mVar 2) (mVar 3))) (sRet (mUn gNeg (mRet (.int 1)))) sNil)
    (sRet (mIf (mT (mOp gGt (mVar 2) (mVar 3))) (mRet (.int 1)) (mRet (.int 0)))))))
def F_compare : List D → Sto → Option (R D) := fnOf 4 m_compare
def L0_whole_power : MS := (sSeq (sSet 2 (mOp gMul (mVar 2) (mVar 2)))
    (sIf (mTru (mOp gAnd (mOp gShr (mVar 1) (mVar 3)) (mRet (.int 1)))) (sSet 2 (mOp gMul (mVar 2) (mVar 0))) sNil))
def m_whole_power : MS :=
    (sSeq (sSet 2 (mRet (.int 1)))
    (sSeq (sFor (tN 3) (mRev1 (mUn gBits (mVar 1))) L0_whole_power)
    (sRet (mVar 2))))
def F_whole_power : List D → Sto → Option (R D) := fnOf 4 m_whole_power
def m__law_cell : MS :=
    (sSeq (sIf (mT (mOp gLt (mVar 1) (mBi gLen (mCons (mVar 0) mNil)))) (sRet (mOp gIx (mVar 0) (mVar 1))) sNil)
    (sRet (mRet (.int 0))))
def F__law_cell : List D → Sto → Option (R D) := fnOf 2 m__law_cell
def L0__law_draws : MS := (sIf (mAnd (mT (mOp gGe (mVar 0) (mOp gPow (mRet (.int 10)) (mRet (.int 18))))) (mT (mOp gGt (mVar 3) (mRet (.int 0))))) (sSeq (sEx (mApp (mVar 2) (mOp gMod (mBi gInt (mCons (mVar 3) mNil)) (mRet (.int 4096)))))
    (sSet 3 (mOp gDiv (mVar 3) (mRet (.int 4096))))) (sSeq (sSet 5 (mOp gMod (mBi gInt (mCons (mOp gAdd (mOp gMul (mVar 0) (mRet (.int 48271))) (mOp gMul (mOp gAdd (mVar 4) (mRet (.int 1))) (mRet (.int 69621)))) mNil)) (mRet (.int 2147483647))))
    (sSeq (sSet 5 (mOp gMod (mBi gInt (mCons (mOp gAdd (mOp gAdd (mOp gMul (mVar 5) (mVar 5)) (mOp gMul (mVar 5) (mRet (.int 16807)))) (mOp gMul (mVar 4) (mRet (.int 7919)))) mNil)) (mRet (.int 2147483629))))
    (sSeq (sSet 5 (mOp gMod (mBi gInt (mCons (mOp gAdd (mOp gAdd (mOp gMul (mVar 5) (mVar 5)) (mVar 0)) (mOp gMul (mRet (.int 13)) (mVar 4))) mNil)) (mRet (.int 2147483587))))
    (sEx (mApp (mVar 2) (mOp gMod (mOp gDiv (mVar 5) (mRet (.int 7))) (mRet (.int 4096)))))))))
def m__law_draws : MS :=
    (sSeq (sSet 2 (mLst mNil))
    (sSeq (sSet 3 (mVar 0))
    (sSeq (sFor (tN 4) (mRng1 (mCons (mVar 1) mNil)) L0__law_draws)
    (sRet (mVar 2)))))
def F__law_draws : List D → Sto → Option (R D) := fnOf 6 m__law_draws
def m__law_is_int : MS :=
    (sRet (mAndV (mBi gIsi (mCons (mVar 0) (mCons (mRet (.ty "int")) mNil))) (mUn gNot (mBi gIsi (mCons (mVar 0) (mCons (mRet (.ty "bool")) mNil))))))
def F__law_is_int : List D → Sto → Option (R D) := fnOf 1 m__law_is_int
def m__law_is_text : MS :=
    (sRet (mAndV (mBi gIsi (mCons (mVar 0) (mCons (mRet (.ty "str")) mNil))) (mOp gEq (mVar 0) (mVar 1))))
def F__law_is_text : List D → Sto → Option (R D) := fnOf 2 m__law_is_text
def L0__law_gcd : M Bool := (mT (mOp gNe (mVar 1) (mRet (.int 0))))
def L1__law_gcd : MS := (sPar 0 1 (mCons (mVar 1) (mCons (mOp gMod (mBi gInt (mCons (mVar 0) mNil)) (mVar 1)) mNil)))
def m__law_gcd : MS :=
    (sSeq (sSet 0 (mBi gAbs (mCons (mVar 0) mNil)))
    (sSeq (sSet 1 (mBi gAbs (mCons (mVar 1) mNil)))
    (sSeq (sWhile L0__law_gcd L1__law_gcd)
    (sRet (mVar 0)))))
def F__law_gcd : List D → Sto → Option (R D) := fnOf 2 m__law_gcd
def m__law_neg : MS :=
    (sRet (mTup (mCons (mUn gNeg (mOp gIx (mVar 0) (mRet (.int 0)))) (mCons (mOp gIx (mVar 0) (mRet (.int 1))) mNil))))
def F__law_neg : List D → Sto → Option (R D) := fnOf 1 m__law_neg
def m__law_sign : MS :=
    (sRet (mOp gSub (mBi gInt (mCons (mOp gGt (mOp gIx (mVar 0) (mRet (.int 0))) (mRet (.int 0))) mNil)) (mBi gInt (mCons (mOp gLt (mOp gIx (mVar 0) (mRet (.int 0))) (mRet (.int 0))) mNil))))
def F__law_sign : List D → Sto → Option (R D) := fnOf 1 m__law_sign
def m_minus : MS :=
    (sRet (mCall F_plus (mCons (mVar 0) (mCons (mTup (mCons (mUn gNeg (mOp gIx (mVar 1) (mRet (.int 0)))) (mCons (mOp gIx (mVar 1) (mRet (.int 1))) mNil))) mNil))))
def F_minus : List D → Sto → Option (R D) := fnOf 2 m_minus
def m_over : MS :=
    (sSeq (sAsg (tTp 2 (tCons' (tN 2) (tCons' (tN 3) tNil'))) (mVar 1))
    (sSeq (sIf (mT (mOp gEq (mVar 2) (mRet (.int 0)))) (sRaise "BadNumber") sNil)
    (sRet (mCall F_times (mCons (mVar 0) (mCons (mIf (mT (mOp gLt (mVar 2) (mRet (.int 0)))) (mTup (mCons (mUn gNeg (mVar 3)) (mCons (mUn gNeg (mVar 2)) mNil))) (mTup (mCons (mVar 3) (mCons (mVar 2) mNil)))) mNil))))))
def F_over : List D → Sto → Option (R D) := fnOf 4 m_over
def m_power : MS :=
    (sRet (mTup (mCons (mCall F_whole_power (mCons (mOp gIx (mVar 0) (mRet (.int 0))) (mCons (mVar 1) mNil))) (mCons (mCall F_whole_power (mCons (mOp gIx (mVar 0) (mRet (.int 1))) (mCons (mVar 1) mNil))) mNil))))
def F_power : List D → Sto → Option (R D) := fnOf 2 m_power
def m__law_is_number : MS :=
    (sRet (mAndV (mCall F__law_is_int (mCons (mVar 0) mNil)) (mOp gEq (mVar 0) (mVar 1))))
def F__law_is_number : List D → Sto → Option (R D) := fnOf 2 m__law_is_number
def m__law_frac : MS :=
    (sSeq (sSet 2 (mCall F__law_gcd (mCons (mVar 0) (mCons (mVar 1) mNil))))
    (sSeq (sIf (mT (mOp gLt (mVar 1) (mRet (.int 0)))) (sSet 2 (mUn gNeg (mVar 2))) sNil)
    (sRet (mTup (mCons (mOp gDiv (mVar 0) (mVar 2)) (mCons (mOp gDiv (mVar 1) (mVar 2)) mNil))))))
def F__law_frac : List D → Sto → Option (R D) := fnOf 3 m__law_frac
def m__law_add : MS :=
    (sRet (mCall F__law_frac (mCons (mOp gAdd (mOp gMul (mOp gIx (mVar 0) (mRet (.int 0))) (mOp gIx (mVar 1) (mRet (.int 1)))) (mOp gMul (mOp gIx (mVar 1) (mRet (.int 0))) (mOp gIx (mVar 0) (mRet (.int 1))))) (mCons (mOp gMul (mOp gIx (mVar 0) (mRet (.int 1))) (mOp gIx (mVar 1) (mRet (.int 1)))) mNil))))
def F__law_add : List D → Sto → Option (R D) := fnOf 2 m__law_add
def m__law_mul : MS :=
    (sRet (mCall F__law_frac (mCons (mOp gMul (mOp gIx (mVar 0) (mRet (.int 0))) (mOp gIx (mVar 1) (mRet (.int 0)))) (mCons (mOp gMul (mOp gIx (mVar 0) (mRet (.int 1))) (mOp gIx (mVar 1) (mRet (.int 1)))) mNil))))
def F__law_mul : List D → Sto → Option (R D) := fnOf 2 m__law_mul
def m__law_over : MS :=
    (sRet (mCall F__law_frac (mCons (mOp gMul (mOp gIx (mVar 0) (mRet (.int 0))) (mOp gIx (mVar 1) (mRet (.int 1)))) (mCons (mOp gMul (mOp gIx (mVar 0) (mRet (.int 1))) (mOp gIx (mVar 1) (mRet (.int 0)))) mNil))))
def F__law_over : List D → Sto → Option (R D) := fnOf 2 m__law_over
def m__law_same (Fr : List D → Sto → Option (R D)) : MS :=
    (sSeq (sIf (mT (mBi gIsi (mCons (mVar 1) (mCons (mRet (.ty "tuple")) mNil)))) (sSeq (sIf (mOr (mNotB (mT (mBi gIsi (mCons (mVar 0) (mCons (mRet (.ty "tuple")) mNil))))) (mT (mOp gNe (mBi gLen (mCons (mVar 0) mNil)) (mBi gLen (mCons (mVar 1) mNil))))) (sRet (mRet (.bl false))) sNil)
    (sRet (mOp gEq (mBi gLen (mCons (mLc [2] (tN 2) (mRng1 (mCons (mBi gLen (mCons (mVar 1) mNil)) mNil)) (mNotB (mTru (mCall Fr (mCons (mOp gIx (mVar 0) (mVar 2)) (mCons (mOp gIx (mVar 1) (mVar 2)) mNil))))) (mVar 2)) mNil)) (mRet (.int 0))))) sNil)
    (sSeq (sIf (mT (mBi gIsi (mCons (mVar 1) (mCons (mRet (.ty "list")) mNil)))) (sSeq (sIf (mOr (mNotB (mT (mBi gIsi (mCons (mVar 0) (mCons (mRet (.ty "list")) mNil))))) (mT (mOp gNe (mBi gLen (mCons (mVar 0) mNil)) (mBi gLen (mCons (mVar 1) mNil))))) (sRet (mRet (.bl false))) sNil)
    (sRet (mOp gEq (mBi gLen (mCons (mLc [2] (tN 2) (mRng1 (mCons (mBi gLen (mCons (mVar 1) mNil)) mNil)) (mNotB (mTru (mCall Fr (mCons (mOp gIx (mVar 0) (mVar 2)) (mCons (mOp gIx (mVar 1) (mVar 2)) mNil))))) (mVar 2)) mNil)) (mRet (.int 0))))) sNil)
    (sSeq (sIf (mT (mOp gIs (mVar 1) (mRet .non))) (sRet (mOp gIs (mVar 0) (mRet .non))) sNil)
    (sSeq (sIf (mT (mOp gIs (mVar 1) (mRet (.bl true)))) (sRet (mOp gIs (mVar 0) (mRet (.bl true)))) sNil)
    (sSeq (sIf (mT (mOp gIs (mVar 1) (mRet (.bl false)))) (sRet (mOp gIs (mVar 0) (mRet (.bl false)))) sNil)
    (sSeq (sIf (mT (mBi gIsi (mCons (mVar 1) (mCons (mRet (.ty "int")) mNil)))) (sRet (mCall F__law_is_number (mCons (mVar 0) (mCons (mVar 1) mNil)))) sNil)
    (sRet (mCall F__law_is_text (mCons (mVar 0) (mCons (mVar 1) mNil))))))))))
def F__law_same : Nat → List D → Sto → Option (R D)
  | 0 => fun _ _ => none
  | k + 1 => fnOf 3 (m__law_same (F__law_same k))
def m__law_any_number : MS :=
    (sSeq (sSet 2 (mBi gIntT (mCons (mOp gAdd (mRet (.str (PySem.Str.ofString "1"))) (mOp gMulT (mRet (.str (PySem.Str.ofString "0"))) (mOp gMod (mVar 1) (mRet (.int 40))))) mNil)))
    (sRet (mCall F__law_frac (mCons (mOp gAdd (mOp gMul (mOp gSub (mOp gMod (mVar 0) (mRet (.int 2001))) (mRet (.int 1000))) (mVar 2)) (mOp gMod (mVar 1) (mRet (.int 7)))) (mCons (mOp gAdd (mRet (.int 1)) (mOp gMul (mOp gMod (mOp gDiv (mVar 0) (mRet (.int 16))) (mRet (.int 9))) (mOp gAdd (mRet (.int 1)) (mOp gMul (mVar 2) (mOp gMod (mOp gDiv (mVar 1) (mRet (.int 40))) (mRet (.int 2))))))) mNil)))))
def F__law_any_number : List D → Sto → Option (R D) := fnOf 3 m__law_any_number
def m__law_quotient : MS :=
    (sTry (sRet (mCall F_over (mCons (mVar 0) (mCons (mVar 1) mNil)))) "BadNumber" (sRet (mRet .non)))
def F__law_quotient : List D → Sto → Option (R D) := fnOf 2 m__law_quotient
def m__law_sub : MS :=
    (sRet (mCall F__law_add (mCons (mVar 0) (mCons (mCall F__law_neg (mCons (mVar 1) mNil)) mNil))))
def F__law_sub : List D → Sto → Option (R D) := fnOf 2 m__law_sub
def L0__law_power : MS := (sSet 2 (mCall F__law_mul (mCons (mVar 2) (mCons (mVar 0) mNil))))
def m__law_power : MS :=
    (sSeq (sSet 2 (mTup (mCons (mRet (.int 1)) (mCons (mRet (.int 1)) mNil))))
    (sSeq (sFor (tN 3) (mRng1 (mCons (mVar 1) mNil)) L0__law_power)
    (sRet (mVar 2))))
def F__law_power : List D → Sto → Option (R D) := fnOf 4 m__law_power
def L0_law : MS := (sSeq (sSet 2 (mCall F__law_draws (mCons (mCall F__law_cell (mCons (mVar 0) (mCons (mVar 1) mNil))) (mCons (mRet (.int 7)) mNil))))
    (sSeq (sSet 3 (mCall F__law_any_number (mCons (mOp gIx (mVar 2) (mRet (.int 0))) (mCons (mOp gIx (mVar 2) (mRet (.int 1))) mNil))))
    (sSeq (sSet 4 (mCall F__law_any_number (mCons (mOp gIx (mVar 2) (mRet (.int 2))) (mCons (mOp gIx (mVar 2) (mRet (.int 3))) mNil))))
    (sSeq (sIf (mT (mOp gEq (mOp gMod (mOp gIx (mVar 2) (mRet (.int 4))) (mRet (.int 4))) (mRet (.int 1)))) (sSet 4 (mOp gIx (mLst (mCons (mVar 3) (mCons (mCall F__law_neg (mCons (mVar 3) mNil)) (mCons (mTup (mCons (mRet (.int 0)) (mCons (mRet (.int 1)) mNil))) mNil)))) (mOp gMod (mOp gDiv (mOp gIx (mVar 2) (mRet (.int 4))) (mRet (.int 4))) (mRet (.int 3))))) sNil)
    (sSeq (sSet 5 (mOp gMod (mOp gIx (mVar 2) (mRet (.int 5))) (mRet (.int 7))))
    (sSeq (sIf (mNotB (mTru (mCall (F__law_same 40) (mCons (mLst (mCons (mCall F_plus (mCons (mVar 3) (mCons (mVar 4) mNil))) (mCons (mCall F_minus (mCons (mVar 3) (mCons (mVar 4) mNil))) (mCons (mCall F_times (mCons (mVar 3) (mCons (mVar 4) mNil))) mNil)))) (mCons (mLst (mCons (mCall F__law_add (mCons (mVar 3) (mCons (mVar 4) mNil))) (mCons (mCall F__law_sub (mCons (mVar 3) (mCons (mVar 4) mNil))) (mCons (mCall F__law_mul (mCons (mVar 3) (mCons (mVar 4) mNil))) mNil)))) mNil))))) (sRet (mRet (.bl false))) sNil)
    (sSeq (sSet 6 (mRet .non))
    (sSeq (sIf (mT (mOp gNe (mOp gIx (mVar 4) (mRet (.int 0))) (mRet (.int 0)))) (sSet 6 (mCall F__law_over (mCons (mVar 3) (mCons (mVar 4) mNil)))) sNil)
    (sSeq (sIf (mNotB (mTru (mCall (F__law_same 40) (mCons (mCall F__law_quotient (mCons (mVar 3) (mCons (mVar 4) mNil))) (mCons (mVar 6) mNil))))) (sRet (mRet (.bl false))) sNil)
    (sSeq (sIf (mNotB (mTru (mCall (F__law_same 40) (mCons (mCall F_power (mCons (mVar 3) (mCons (mVar 5) mNil))) (mCons (mCall F__law_power (mCons (mVar 3) (mCons (mVar 5) mNil))) mNil))))) (sRet (mRet (.bl false))) sNil)
    (sIf (mNotB (mTru (mCall F__law_is_number (mCons (mCall F_compare (mCons (mVar 3) (mCons (mVar 4) mNil))) (mCons (mCall F__law_sign (mCons (mCall F__law_sub (mCons (mVar 3) (mCons (mVar 4) mNil))) mNil)) mNil))))) (sRet (mRet (.bl false))) sNil)))))))))))
def m_law : MS :=
    (sSeq (sFor (tN 1) (mRng1 (mCons (mRet (.int 3)) mNil)) L0_law)
    (sRet (mRet (.bl true))))
def F_law : List D → Sto → Option (R D) := fnOf 7 m_law
section
variable {P : Program} {w : World} {K : PySem.W.Frag} {mg : Str → Option Value} {base : Heap} {a : Adr}
theorem ok_plus (T : Txt K mg a) : FnOk P w K mg base (L2.CX P w) 1 a.f_plus a.d_plus ["x", "y"] (spF K (ecOf a) 2 F_plus) := by
  refine fn_ok (m := m_plus) (k := 0) T.F_plus sc_plus rfl fun cdv A outer s H E hr => ?_
  unfold m_plus
  exact (xs_cons (x_asg (vs := [2, 3]) (x_var 0) (pg_tup rfl (pgs_cons (pg_name (i := 2) sc_plus.nd rfl (by first | exact Or.inl rfl | exact Or.inr rfl)) (pgs_cons (pg_name (i := 3) sc_plus.nd rfl (by first | exact Or.inl rfl | exact Or.inr rfl)) pgs_nil))) (tgs_tup (tgs_cons tgs_name (tgs_cons tgs_name tgs_nil))))
    (xs_cons (x_asg (vs := [4, 5]) (x_var 1) (pg_tup rfl (pgs_cons (pg_name (i := 4) sc_plus.nd rfl (by first | exact Or.inl rfl | exact Or.inr rfl)) (pgs_cons (pg_name (i := 5) sc_plus.nd rfl (by first | exact Or.inl rfl | exact Or.inr rfl)) pgs_nil))) (tgs_tup (tgs_cons tgs_name (tgs_cons tgs_name tgs_nil))))
    (xs_cons (x_set 6 sc_plus.nd (x_biF callS_gcd T.z_gcd (xa_cons (x_var 3) (xa_cons (x_var 5) xa_nil))))
    (xs_cons (x_if (xt_cmp opS_eq (x_var 6) x_int) (xs_one (x_ret (x_tup (xa_cons (x_bin opS_add (x_bin opS_mul (x_var 2) (x_var 5)) (x_bin opS_mul (x_var 3) (x_var 4))) (xa_cons (x_bin opS_mul (x_var 3) (x_var 5)) xa_nil))))) xs_nil)
    (xs_cons (x_set 7 sc_plus.nd (x_bin opS_add (x_bin opS_mul (x_var 2) (x_bin opS_div (x_var 5) (x_var 6))) (x_bin opS_mul (x_var 4) (x_bin opS_div (x_var 3) (x_var 6)))))
    (xs_cons (x_set 8 sc_plus.nd (x_biF callS_gcd T.z_gcd (xa_cons (x_var 7) (xa_cons (x_var 6) xa_nil))))
    (xs_one (x_ret (x_tup (xa_cons (x_bin opS_div (x_var 7) (x_var 8)) (xa_cons (x_bin opS_mul (x_bin opS_div (x_var 3) (x_var 6)) (x_bin opS_div (x_var 5) (x_var 8))) xa_nil)))))))))))
theorem ok_times (T : Txt K mg a) : FnOk P w K mg base (L2.CX P w) 1 a.f_times a.d_times ["x", "y"] (spF K (ecOf a) 2 F_times) := by
  refine fn_ok (m := m_times) (k := 0) T.F_times sc_times rfl fun cdv A outer s H E hr => ?_
  unfold m_times
  exact (xs_cons (x_asg (vs := [2, 3]) (x_var 0) (pg_tup rfl (pgs_cons (pg_name (i := 2) sc_times.nd rfl (by first | exact Or.inl rfl | exact Or.inr rfl)) (pgs_cons (pg_name (i := 3) sc_times.nd rfl (by first | exact Or.inl rfl | exact Or.inr rfl)) pgs_nil))) (tgs_tup (tgs_cons tgs_name (tgs_cons tgs_name tgs_nil))))
    (xs_cons (x_asg (vs := [4, 5]) (x_var 1) (pg_tup rfl (pgs_cons (pg_name (i := 4) sc_times.nd rfl (by first | exact Or.inl rfl | exact Or.inr rfl)) (pgs_cons (pg_name (i := 5) sc_times.nd rfl (by first | exact Or.inl rfl | exact Or.inr rfl)) pgs_nil))) (tgs_tup (tgs_cons tgs_name (tgs_cons tgs_name tgs_nil))))
    (xs_cons (x_set 6 sc_times.nd (x_biF callS_gcd T.z_gcd (xa_cons (x_var 2) (xa_cons (x_var 5) xa_nil))))
    (xs_cons (x_set 7 sc_times.nd (x_biF callS_gcd T.z_gcd (xa_cons (x_var 4) (xa_cons (x_var 3) xa_nil))))
    (xs_one (x_ret (x_tup (xa_cons (x_bin opS_mul (x_bin opS_div (x_var 2) (x_var 6)) (x_bin opS_div (x_var 4) (x_var 7))) (xa_cons (x_bin opS_mul (x_bin opS_div (x_var 3) (x_var 7)) (x_bin opS_div (x_var 5) (x_var 6))) xa_nil)))))))))
theorem ok_compare (T : Txt K mg a) : FnOk P w K mg base (L2.CX P w) 1 a.f_compare a.d_compare ["x", "y"] (spF K (ecOf a) 2 F_compare) := by
  refine fn_ok (m := m_compare) (k := 0) T.F_compare sc_compare rfl fun cdv A outer s H E hr => ?_
  unfold m_compare
  exact (xs_cons (x_set 2 sc_compare.nd (x_bin opS_mul (x_ix (x_var 0) x_int) (x_ix (x_var 1) x_int)))
    (xs_cons (x_set 3 sc_compare.nd (x_bin opS_mul (x_ix (x_var 1) x_int) (x_ix (x_var 0) x_int)))
    (xs_cons (x_if (xt_cmp opS_lt (x_var 2) (x_var 3)) (xs_one (x_ret (x_neg x_int))) xs_nil)
    (xs_one (x_ret (x_ife (xt_cmp opS_gt (x_var 2) (x_var 3)) x_int x_int))))))
theorem ok_whole_power (T : Txt K mg a) : FnOk P w K mg base (L2.CX P w) 1 a.f_whole_power a.d_whole_power ["a", "k"] (spF K (ecOf a) 2 F_whole_power) := by
  refine fn_ok (m := m_whole_power) (k := 0) T.F_whole_power sc_whole_power rfl fun cdv A outer s H E hr => ?_
  unfold m_whole_power
  exact (xs_cons (x_set 2 sc_whole_power.nd x_int)
    (xs_cons (x_for (vs := [3]) (passes_of rfl) rfl (xi_rev1 (x_bits (x_var 1)) T.z_reversed T.z_range) (pg_name (i := 3) sc_whole_power.nd rfl (by first | exact Or.inl rfl | exact Or.inr rfl)) tgs_name (xs_cons (x_set 2 sc_whole_power.nd (x_bin opS_mul (x_var 2) (x_var 2)))
    (xs_one (x_if (x_truth (x_bin opS_and (x_bin opS_shr (x_var 1) (x_var 3)) x_int)) (xs_one (x_set 2 sc_whole_power.nd (x_bin opS_mul (x_var 2) (x_var 0)))) xs_nil))))
    (xs_one (x_ret (x_var 2)))))
theorem ok__law_cell (T : Txt K mg a) : FnOk P w K mg base (L2.CX P w) 1 a.f__law_cell a.d__law_cell ["script", "k"] (spF K (ecOf a) 2 F__law_cell) := by
  refine fn_ok (m := m__law_cell) (k := 0) T.F__law_cell sc__law_cell rfl fun cdv A outer s H E hr => ?_
  unfold m__law_cell
  exact (xs_cons (x_if (xt_cmp opS_lt (x_var 1) (x_biB callS_len T.z_len (by decide +kernel) (xa_cons (x_var 0) xa_nil))) (xs_one (x_ret (x_ix (x_var 0) (x_var 1)))) xs_nil)
    (xs_one (x_ret x_int)))
theorem ok__law_draws (T : Txt K mg a) : FnOk P w K mg base (L2.CX P w) 1 a.f__law_draws a.d__law_draws ["cell", "count"] (spF K (ecOf a) 2 F__law_draws) := by
  refine fn_ok (m := m__law_draws) (k := 0) T.F__law_draws sc__law_draws rfl fun cdv A outer s H E hr => ?_
  unfold m__law_draws
  exact (xs_cons (x_set 2 sc__law_draws.nd (x_lst xa_nil))
    (xs_cons (x_set 3 sc__law_draws.nd (x_var 0))
    (xs_cons (x_for (vs := [4]) (passes_of rfl) rfl (xi_rng1 (xa_cons (x_var 1) xa_nil) T.z_range) (pg_name (i := 4) sc__law_draws.nd rfl (by first | exact Or.inl rfl | exact Or.inr rfl)) tgs_name (xs_one (x_if (xw_and (xt_cmp opS_ge (x_var 0) (x_bin opS_pow x_int x_int)) (xw_and1 (xt_cmp opS_gt (x_var 3) x_int))).xt (xs_cons (x_ex (x_app (x_var 2) (x_bin opS_mod (x_biT callS_int T.z_int (by decide +kernel) (xa_cons (x_var 3) xa_nil)) x_int)))
    (xs_one (x_set 3 sc__law_draws.nd (x_bin opS_div (x_var 3) x_int)))) (xs_cons (x_set 5 sc__law_draws.nd (x_bin opS_mod (x_biT callS_int T.z_int (by decide +kernel) (xa_cons (x_bin opS_add (x_bin opS_mul (x_var 0) x_int) (x_bin opS_mul (x_bin opS_add (x_var 4) x_int) x_int)) xa_nil)) x_int))
    (xs_cons (x_set 5 sc__law_draws.nd (x_bin opS_mod (x_biT callS_int T.z_int (by decide +kernel) (xa_cons (x_bin opS_add (x_bin opS_add (x_bin opS_mul (x_var 5) (x_var 5)) (x_bin opS_mul (x_var 5) x_int)) (x_bin opS_mul (x_var 4) x_int)) xa_nil)) x_int))
    (xs_cons (x_set 5 sc__law_draws.nd (x_bin opS_mod (x_biT callS_int T.z_int (by decide +kernel) (xa_cons (x_bin opS_add (x_bin opS_add (x_bin opS_mul (x_var 5) (x_var 5)) (x_var 0)) (x_bin opS_mul x_int (x_var 4))) xa_nil)) x_int))
    (xs_one (x_ex (x_app (x_var 2) (x_bin opS_mod (x_bin opS_div (x_var 5) x_int) x_int))))))))))
    (xs_one (x_ret (x_var 2))))))
theorem ok__law_is_int (T : Txt K mg a) : FnOk P w K mg base (L2.CX P w) 1 a.f__law_is_int a.d__law_is_int ["x"] (spF K (ecOf a) 1 F__law_is_int) := by
  refine fn_ok (m := m__law_is_int) (k := 0) T.F__law_is_int sc__law_is_int rfl fun cdv A outer s H E hr => ?_
  unfold m__law_is_int
  exact (xs_one (x_ret (x_andV (x_biB callS_isi T.z_isinstance (by decide +kernel) (xa_cons (x_var 0) (xa_cons (x_ty T.z_int (by decide +kernel)) xa_nil))) (x_one (x_not (x_biB callS_isi T.z_isinstance (by decide +kernel) (xa_cons (x_var 0) (xa_cons (x_ty T.z_bool (by decide +kernel)) xa_nil))))))))
theorem ok__law_is_text (T : Txt K mg a) : FnOk P w K mg base (L2.CX P w) 1 a.f__law_is_text a.d__law_is_text ["x", "due"] (spF K (ecOf a) 2 F__law_is_text) := by
  refine fn_ok (m := m__law_is_text) (k := 0) T.F__law_is_text sc__law_is_text rfl fun cdv A outer s H E hr => ?_
  unfold m__law_is_text
  exact (xs_one (x_ret (x_andV (x_biB callS_isi T.z_isinstance (by decide +kernel) (xa_cons (x_var 0) (xa_cons (x_ty T.z_str (by decide +kernel)) xa_nil))) (x_one (x_cmp opS_eq (x_var 0) (x_var 1))))))
theorem ok__law_gcd (T : Txt K mg a) : FnOk P w K mg base (L2.CX P w) 1 a.f__law_gcd a.d__law_gcd ["a", "b"] (spF K (ecOf a) 2 F__law_gcd) := by
  refine fn_ok (m := m__law_gcd) (k := 0) T.F__law_gcd sc__law_gcd rfl fun cdv A outer s H E hr => ?_
  unfold m__law_gcd
  exact (xs_cons (x_set 0 sc__law_gcd.nd (x_biB callS_abs T.z_abs (by decide +kernel) (xa_cons (x_var 0) xa_nil)))
    (xs_cons (x_set 1 sc__law_gcd.nd (x_biB callS_abs T.z_abs (by decide +kernel) (xa_cons (x_var 1) xa_nil)))
    (xs_cons (x_while (passes_of rfl) (xt_cmp opS_ne (x_var 1) x_int) (xs_one (x_par (i := 0) (j := 1) rfl sc__law_gcd.nd (xa_cons (x_var 1) (xa_cons (x_bin opS_mod (x_biT callS_int T.z_int (by decide +kernel) (xa_cons (x_var 0) xa_nil)) (x_var 1)) xa_nil)))))
    (xs_one (x_ret (x_var 0))))))
theorem ok__law_neg (T : Txt K mg a) : FnOk P w K mg base (L2.CX P w) 1 a.f__law_neg a.d__law_neg ["x"] (spF K (ecOf a) 1 F__law_neg) := by
  refine fn_ok (m := m__law_neg) (k := 0) T.F__law_neg sc__law_neg rfl fun cdv A outer s H E hr => ?_
  unfold m__law_neg
  exact (xs_one (x_ret (x_tup (xa_cons (x_neg (x_ix (x_var 0) x_int)) (xa_cons (x_ix (x_var 0) x_int) xa_nil)))))
theorem ok__law_sign (T : Txt K mg a) : FnOk P w K mg base (L2.CX P w) 1 a.f__law_sign a.d__law_sign ["x"] (spF K (ecOf a) 1 F__law_sign) := by
  refine fn_ok (m := m__law_sign) (k := 0) T.F__law_sign sc__law_sign rfl fun cdv A outer s H E hr => ?_
  unfold m__law_sign
  exact (xs_one (x_ret (x_bin opS_sub (x_biT callS_int T.z_int (by decide +kernel) (xa_cons (x_cmp opS_gt (x_ix (x_var 0) x_int) x_int) xa_nil)) (x_biT callS_int T.z_int (by decide +kernel) (xa_cons (x_cmp opS_lt (x_ix (x_var 0) x_int) x_int) xa_nil)))))
theorem ok_minus (T : Txt K mg a) : FnOk P w K mg base (L2.CX P w) 2 a.f_minus a.d_minus ["x", "y"] (spF K (ecOf a) 2 F_minus) := by
  refine fn_ok (m := m_minus) (k := 1) T.F_minus sc_minus rfl fun cdv A outer s H E hr => ?_
  unfold m_minus
  exact (xs_one (x_ret (x_call (takes_of rfl rfl rfl rfl) (ok_plus T) (hr.mono (by decide)) T.g_plus T.F_plus.kp T.b_plus (xa_cons (x_var 0) (xa_cons (x_tup (xa_cons (x_neg (x_ix (x_var 1) x_int)) (xa_cons (x_ix (x_var 1) x_int) xa_nil))) xa_nil)) (hms := (mCons_len (mCons_len mNilL))))))
theorem ok_over (T : Txt K mg a) : FnOk P w K mg base (L2.CX P w) 2 a.f_over a.d_over ["x", "y"] (spF K (ecOf a) 2 F_over) := by
  refine fn_ok (m := m_over) (k := 1) T.F_over sc_over rfl fun cdv A outer s H E hr => ?_
  unfold m_over
  exact (xs_cons (x_asg (vs := [2, 3]) (x_var 1) (pg_tup rfl (pgs_cons (pg_name (i := 2) sc_over.nd rfl (by first | exact Or.inl rfl | exact Or.inr rfl)) (pgs_cons (pg_name (i := 3) sc_over.nd rfl (by first | exact Or.inl rfl | exact Or.inr rfl)) pgs_nil))) (tgs_tup (tgs_cons tgs_name (tgs_cons tgs_name tgs_nil))))
    (xs_cons (x_if (xt_cmp opS_eq (x_var 2) x_int) (xs_one (x_raise rfl (takes_of rfl rfl rfl rfl) (pmk_own PySem.F.excBase_ValueError T.x_BadNumber T.g_BadNumber T.k_BadNumber (raises_own T.s_BadNumber T.t_BadNumber) rfl) (ec_BadNumber a))) xs_nil)
    (xs_one (x_ret (x_call (takes_of rfl rfl rfl rfl) (ok_times T) (hr.mono (by decide)) T.g_times T.F_times.kp T.b_times (xa_cons (x_var 0) (xa_cons (x_ife (xt_cmp opS_lt (x_var 2) x_int) (x_tup (xa_cons (x_neg (x_var 3)) (xa_cons (x_neg (x_var 2)) xa_nil))) (x_tup (xa_cons (x_var 3) (xa_cons (x_var 2) xa_nil)))) xa_nil)) (hms := (mCons_len (mCons_len mNilL))))))))
theorem ok_power (T : Txt K mg a) : FnOk P w K mg base (L2.CX P w) 2 a.f_power a.d_power ["x", "k"] (spF K (ecOf a) 2 F_power) := by
  refine fn_ok (m := m_power) (k := 1) T.F_power sc_power rfl fun cdv A outer s H E hr => ?_
  unfold m_power
  exact (xs_one (x_ret (x_tup (xa_cons (x_call (takes_of rfl rfl rfl rfl) (ok_whole_power T) (hr.mono (by decide)) T.g_whole_power T.F_whole_power.kp T.b_whole_power (xa_cons (x_ix (x_var 0) x_int) (xa_cons (x_var 1) xa_nil)) (hms := (mCons_len (mCons_len mNilL)))) (xa_cons (x_call (takes_of rfl rfl rfl rfl) (ok_whole_power T) (hr.mono (by decide)) T.g_whole_power T.F_whole_power.kp T.b_whole_power (xa_cons (x_ix (x_var 0) x_int) (xa_cons (x_var 1) xa_nil)) (hms := (mCons_len (mCons_len mNilL)))) xa_nil)))))
theorem ok__law_is_number (T : Txt K mg a) : FnOk P w K mg base (L2.CX P w) 2 a.f__law_is_number a.d__law_is_number ["x", "due"] (spF K (ecOf a) 2 F__law_is_number) := by
  refine fn_ok (m := m__law_is_number) (k := 1) T.F__law_is_number sc__law_is_number rfl fun cdv A outer s H E hr => ?_
  unfold m__law_is_number
  exact (xs_one (x_ret (x_andV (x_call (takes_of rfl rfl rfl rfl) (ok__law_is_int T) (hr.mono (by decide)) T.g__law_is_int T.F__law_is_int.kp T.b__law_is_int (xa_cons (x_var 0) xa_nil) (hms := (mCons_len mNilL))) (x_one (x_cmp opS_eq (x_var 0) (x_var 1))))))
theorem ok__law_frac (T : Txt K mg a) : FnOk P w K mg base (L2.CX P w) 2 a.f__law_frac a.d__law_frac ["a", "b"] (spF K (ecOf a) 2 F__law_frac) := by
  refine fn_ok (m := m__law_frac) (k := 1) T.F__law_frac sc__law_frac rfl fun cdv A outer s H E hr => ?_
  unfold m__law_frac
  exact (xs_cons (x_set 2 sc__law_frac.nd (x_call (takes_of rfl rfl rfl rfl) (ok__law_gcd T) (hr.mono (by decide)) T.g__law_gcd T.F__law_gcd.kp T.b__law_gcd (xa_cons (x_var 0) (xa_cons (x_var 1) xa_nil)) (hms := (mCons_len (mCons_len mNilL)))))
    (xs_cons (x_if (xt_cmp opS_lt (x_var 1) x_int) (xs_one (x_set 2 sc__law_frac.nd (x_neg (x_var 2)))) xs_nil)
    (xs_one (x_ret (x_tup (xa_cons (x_bin opS_div (x_var 0) (x_var 2)) (xa_cons (x_bin opS_div (x_var 1) (x_var 2)) xa_nil)))))))
theorem ok__law_add (T : Txt K mg a) : FnOk P w K mg base (L2.CX P w) 3 a.f__law_add a.d__law_add ["x", "y"] (spF K (ecOf a) 2 F__law_add) := by
  refine fn_ok (m := m__law_add) (k := 2) T.F__law_add sc__law_add rfl fun cdv A outer s H E hr => ?_
  unfold m__law_add
  exact (xs_one (x_ret (x_call (takes_of rfl rfl rfl rfl) (ok__law_frac T) (hr.mono (by decide)) T.g__law_frac T.F__law_frac.kp T.b__law_frac (xa_cons (x_bin opS_add (x_bin opS_mul (x_ix (x_var 0) x_int) (x_ix (x_var 1) x_int)) (x_bin opS_mul (x_ix (x_var 1) x_int) (x_ix (x_var 0) x_int))) (xa_cons (x_bin opS_mul (x_ix (x_var 0) x_int) (x_ix (x_var 1) x_int)) xa_nil)) (hms := (mCons_len (mCons_len mNilL))))))
theorem ok__law_mul (T : Txt K mg a) : FnOk P w K mg base (L2.CX P w) 3 a.f__law_mul a.d__law_mul ["x", "y"] (spF K (ecOf a) 2 F__law_mul) := by
  refine fn_ok (m := m__law_mul) (k := 2) T.F__law_mul sc__law_mul rfl fun cdv A outer s H E hr => ?_
  unfold m__law_mul
  exact (xs_one (x_ret (x_call (takes_of rfl rfl rfl rfl) (ok__law_frac T) (hr.mono (by decide)) T.g__law_frac T.F__law_frac.kp T.b__law_frac (xa_cons (x_bin opS_mul (x_ix (x_var 0) x_int) (x_ix (x_var 1) x_int)) (xa_cons (x_bin opS_mul (x_ix (x_var 0) x_int) (x_ix (x_var 1) x_int)) xa_nil)) (hms := (mCons_len (mCons_len mNilL))))))
theorem ok__law_over (T : Txt K mg a) : FnOk P w K mg base (L2.CX P w) 3 a.f__law_over a.d__law_over ["x", "y"] (spF K (ecOf a) 2 F__law_over) := by
  refine fn_ok (m := m__law_over) (k := 2) T.F__law_over sc__law_over rfl fun cdv A outer s H E hr => ?_
  unfold m__law_over
  exact (xs_one (x_ret (x_call (takes_of rfl rfl rfl rfl) (ok__law_frac T) (hr.mono (by decide)) T.g__law_frac T.F__law_frac.kp T.b__law_frac (xa_cons (x_bin opS_mul (x_ix (x_var 0) x_int) (x_ix (x_var 1) x_int)) (xa_cons (x_bin opS_mul (x_ix (x_var 0) x_int) (x_ix (x_var 1) x_int)) xa_nil)) (hms := (mCons_len (mCons_len mNilL))))))
theorem ok__law_same (T : Txt K mg a) : ∀ k : Nat, FnOk P w K mg base (L2.CX P w) (k + 3) a.f__law_same a.d__law_same ["x", "due"] (spF K (ecOf a) 2 (F__law_same k))
  | 0 => fn_none
  | k + 1 => by
    have IH := ok__law_same T k
    have h := fn_ok (P := P) (w := w) (base := base) (mg := mg) (ec := ecOf a) (k := k + 3) (m := m__law_same (F__law_same k)) (n := 3) T.F__law_same sc__law_same rfl (fun cdv A outer s H E hr => ?_)
    · exact h
    · unfold m__law_same
      exact (xs_cons (x_if (x_test (x_biB callS_isi T.z_isinstance (by decide +kernel) (xa_cons (x_var 1) (xa_cons (x_ty T.z_tuple (by decide +kernel)) xa_nil)))) (xs_cons (x_if (xw_or (xt_not (x_test (x_biB callS_isi T.z_isinstance (by decide +kernel) (xa_cons (x_var 0) (xa_cons (x_ty T.z_tuple (by decide +kernel)) xa_nil))))) (xw_or1 (xt_cmp opS_ne (x_biB callS_len T.z_len (by decide +kernel) (xa_cons (x_var 0) xa_nil)) (x_biB callS_len T.z_len (by decide +kernel) (xa_cons (x_var 1) xa_nil))))).xt (xs_one (x_ret x_bl)) xs_nil)
    (xs_one (x_ret (x_cmp opS_eq (x_biB callS_len T.z_len (by decide +kernel) (xa_cons (x_lc (own := [("k", 2)]) rfl sc__law_same.nd (xi_rng1 (xa_cons (x_biB callS_len T.z_len (by decide +kernel) (xa_cons (x_var 1) xa_nil)) xa_nil) T.z_range) (blkOk_by (N := ["x", "due", "k"]) (sc := defScope s__law_same) (by decide +kernel)) (fun _ _ _ _ _ => (pg_name (i := 2) sc__law_same.nd rfl (by first | exact Or.inl rfl | exact Or.inr rfl))) tgs_name (fun _ _ _ _ _ => (xts_one (xt_not (x_truth (x_call takes0 IH hr T.g__law_same T.F__law_same.kp T.b__law_same (xa_cons (x_ix (x_var 0) (x_var 2)) (xa_cons (x_ix (x_var 1) (x_var 2)) xa_nil)) (hms := (mCons_len (mCons_len mNilL)))))))) (fun _ _ _ _ _ => (x_var 2))) xa_nil)) x_int)))) xs_nil)
    (xs_cons (x_if (x_test (x_biB callS_isi T.z_isinstance (by decide +kernel) (xa_cons (x_var 1) (xa_cons (x_ty T.z_list (by decide +kernel)) xa_nil)))) (xs_cons (x_if (xw_or (xt_not (x_test (x_biB callS_isi T.z_isinstance (by decide +kernel) (xa_cons (x_var 0) (xa_cons (x_ty T.z_list (by decide +kernel)) xa_nil))))) (xw_or1 (xt_cmp opS_ne (x_biB callS_len T.z_len (by decide +kernel) (xa_cons (x_var 0) xa_nil)) (x_biB callS_len T.z_len (by decide +kernel) (xa_cons (x_var 1) xa_nil))))).xt (xs_one (x_ret x_bl)) xs_nil)
    (xs_one (x_ret (x_cmp opS_eq (x_biB callS_len T.z_len (by decide +kernel) (xa_cons (x_lc (own := [("k", 2)]) rfl sc__law_same.nd (xi_rng1 (xa_cons (x_biB callS_len T.z_len (by decide +kernel) (xa_cons (x_var 1) xa_nil)) xa_nil) T.z_range) (blkOk_by (N := ["x", "due", "k"]) (sc := defScope s__law_same) (by decide +kernel)) (fun _ _ _ _ _ => (pg_name (i := 2) sc__law_same.nd rfl (by first | exact Or.inl rfl | exact Or.inr rfl))) tgs_name (fun _ _ _ _ _ => (xts_one (xt_not (x_truth (x_call takes0 IH hr T.g__law_same T.F__law_same.kp T.b__law_same (xa_cons (x_ix (x_var 0) (x_var 2)) (xa_cons (x_ix (x_var 1) (x_var 2)) xa_nil)) (hms := (mCons_len (mCons_len mNilL)))))))) (fun _ _ _ _ _ => (x_var 2))) xa_nil)) x_int)))) xs_nil)
    (xs_cons (x_if (xt_cmp opS_is (x_var 1) x_non) (xs_one (x_ret (x_cmp opS_is (x_var 0) x_non))) xs_nil)
    (xs_cons (x_if (xt_cmp opS_is (x_var 1) x_bl) (xs_one (x_ret (x_cmp opS_is (x_var 0) x_bl))) xs_nil)
    (xs_cons (x_if (xt_cmp opS_is (x_var 1) x_bl) (xs_one (x_ret (x_cmp opS_is (x_var 0) x_bl))) xs_nil)
    (xs_cons (x_if (x_test (x_biB callS_isi T.z_isinstance (by decide +kernel) (xa_cons (x_var 1) (xa_cons (x_ty T.z_int (by decide +kernel)) xa_nil)))) (xs_one (x_ret (x_call (takes_of rfl rfl rfl rfl) (ok__law_is_number T) (hr.mono (by omega)) T.g__law_is_number T.F__law_is_number.kp T.b__law_is_number (xa_cons (x_var 0) (xa_cons (x_var 1) xa_nil)) (hms := (mCons_len (mCons_len mNilL)))))) xs_nil)
    (xs_one (x_ret (x_call (takes_of rfl rfl rfl rfl) (ok__law_is_text T) (hr.mono (by omega)) T.g__law_is_text T.F__law_is_text.kp T.b__law_is_text (xa_cons (x_var 0) (xa_cons (x_var 1) xa_nil)) (hms := (mCons_len (mCons_len mNilL))))))))))))
theorem ok__law_any_number (T : Txt K mg a) : FnOk P w K mg base (L2.CX P w) 3 a.f__law_any_number a.d__law_any_number ["draw", "more"] (spF K (ecOf a) 2 F__law_any_number) := by
  refine fn_ok (m := m__law_any_number) (k := 2) T.F__law_any_number sc__law_any_number rfl fun cdv A outer s H E hr => ?_
  unfold m__law_any_number
  exact (xs_cons (x_set 2 sc__law_any_number.nd (x_biT callS_intT T.z_int (by decide +kernel) (xa_cons (x_bin opS_add x_str (x_bin opS_mulT x_str (x_bin opS_mod (x_var 1) x_int))) xa_nil)))
    (xs_one (x_ret (x_call (takes_of rfl rfl rfl rfl) (ok__law_frac T) (hr.mono (by decide)) T.g__law_frac T.F__law_frac.kp T.b__law_frac (xa_cons (x_bin opS_add (x_bin opS_mul (x_bin opS_sub (x_bin opS_mod (x_var 0) x_int) x_int) (x_var 2)) (x_bin opS_mod (x_var 1) x_int)) (xa_cons (x_bin opS_add x_int (x_bin opS_mul (x_bin opS_mod (x_bin opS_div (x_var 0) x_int) x_int) (x_bin opS_add x_int (x_bin opS_mul (x_var 2) (x_bin opS_mod (x_bin opS_div (x_var 1) x_int) x_int))))) xa_nil)) (hms := (mCons_len (mCons_len mNilL)))))))
theorem ok__law_quotient (T : Txt K mg a) : FnOk P w K mg base (L2.CX P w) 3 a.f__law_quotient a.d__law_quotient ["x", "y"] (spF K (ecOf a) 2 F__law_quotient) := by
  refine fn_ok (m := m__law_quotient) (k := 2) T.F__law_quotient sc__law_quotient rfl fun cdv A outer s H E hr => ?_
  unfold m__law_quotient
  exact (xs_one (x_try rfl rfl ⟨rfl, by decide, Or.inl T.g_BadNumber⟩ (takes_of rfl rfl rfl rfl) (ec_BadNumber a) (exm_self T.s_BadNumber T.i_BadNumber T.t_BadNumber T.u_BadNumber) (fun W pn xe tk _ => (xs_one (x_ret (x_call tk (ok_over T) (hr.mono (by decide)) T.g_over T.F_over.kp T.b_over (xa_cons (x_var 0) (xa_cons (x_var 1) xa_nil)) (hms := (mCons_len (mCons_len mNilL))))))) (fun _ _ _ _ _ _ _ => (xs_one (x_ret x_non)))))
theorem ok__law_sub (T : Txt K mg a) : FnOk P w K mg base (L2.CX P w) 4 a.f__law_sub a.d__law_sub ["x", "y"] (spF K (ecOf a) 2 F__law_sub) := by
  refine fn_ok (m := m__law_sub) (k := 3) T.F__law_sub sc__law_sub rfl fun cdv A outer s H E hr => ?_
  unfold m__law_sub
  exact (xs_one (x_ret (x_call (takes_of rfl rfl rfl rfl) (ok__law_add T) (hr.mono (by decide)) T.g__law_add T.F__law_add.kp T.b__law_add (xa_cons (x_var 0) (xa_cons (x_call (takes_of rfl rfl rfl rfl) (ok__law_neg T) (hr.mono (by decide)) T.g__law_neg T.F__law_neg.kp T.b__law_neg (xa_cons (x_var 1) xa_nil) (hms := (mCons_len mNilL))) xa_nil)) (hms := (mCons_len (mCons_len mNilL))))))
theorem ok__law_power (T : Txt K mg a) : FnOk P w K mg base (L2.CX P w) 4 a.f__law_power a.d__law_power ["x", "k"] (spF K (ecOf a) 2 F__law_power) := by
  refine fn_ok (m := m__law_power) (k := 3) T.F__law_power sc__law_power rfl fun cdv A outer s H E hr => ?_
  unfold m__law_power
  exact (xs_cons (x_set 2 sc__law_power.nd (x_tup (xa_cons x_int (xa_cons x_int xa_nil))))
    (xs_cons (x_for (vs := [3]) (passes_of rfl) rfl (xi_rng1 (xa_cons (x_var 1) xa_nil) T.z_range) (pg_name (i := 3) sc__law_power.nd rfl (by first | exact Or.inl rfl | exact Or.inr rfl)) tgs_name (xs_one (x_set 2 sc__law_power.nd (x_call (takes_of rfl rfl rfl rfl) (ok__law_mul T) (hr.mono (by decide)) T.g__law_mul T.F__law_mul.kp T.b__law_mul (xa_cons (x_var 2) (xa_cons (x_var 0) xa_nil)) (hms := (mCons_len (mCons_len mNilL)))))))
    (xs_one (x_ret (x_var 2)))))
theorem ok_law (T : Txt K mg a) : FnOk P w K mg base (L2.CX P w) 44 a.f_law a.d_law ["script"] (spF K (ecOf a) 1 F_law) := by
  refine fn_ok (m := m_law) (k := 43) T.F_law sc_law rfl fun cdv A outer s H E hr => ?_
  unfold m_law
  exact (xs_cons (x_for (vs := [1]) (passes_of rfl) rfl (xi_rng1 (xa_cons x_int xa_nil) T.z_range) (pg_name (i := 1) sc_law.nd rfl (by first | exact Or.inl rfl | exact Or.inr rfl)) tgs_name (xs_cons (x_set 2 sc_law.nd (x_call (takes_of rfl rfl rfl rfl) (ok__law_draws T) (hr.mono (by decide)) T.g__law_draws T.F__law_draws.kp T.b__law_draws (xa_cons (x_call (takes_of rfl rfl rfl rfl) (ok__law_cell T) (hr.mono (by decide)) T.g__law_cell T.F__law_cell.kp T.b__law_cell (xa_cons (x_var 0) (xa_cons (x_var 1) xa_nil)) (hms := (mCons_len (mCons_len mNilL)))) (xa_cons x_int xa_nil)) (hms := (mCons_len (mCons_len mNilL)))))
    (xs_cons (x_set 3 sc_law.nd (x_call (takes_of rfl rfl rfl rfl) (ok__law_any_number T) (hr.mono (by decide)) T.g__law_any_number T.F__law_any_number.kp T.b__law_any_number (xa_cons (x_ix (x_var 2) x_int) (xa_cons (x_ix (x_var 2) x_int) xa_nil)) (hms := (mCons_len (mCons_len mNilL)))))
    (xs_cons (x_set 4 sc_law.nd (x_call (takes_of rfl rfl rfl rfl) (ok__law_any_number T) (hr.mono (by decide)) T.g__law_any_number T.F__law_any_number.kp T.b__law_any_number (xa_cons (x_ix (x_var 2) x_int) (xa_cons (x_ix (x_var 2) x_int) xa_nil)) (hms := (mCons_len (mCons_len mNilL)))))
    (xs_cons (x_if (xt_cmp opS_eq (x_bin opS_mod (x_ix (x_var 2) x_int) x_int) x_int) (xs_one (x_set 4 sc_law.nd (x_ix (x_lst (xa_cons (x_var 3) (xa_cons (x_call (takes_of rfl rfl rfl rfl) (ok__law_neg T) (hr.mono (by decide)) T.g__law_neg T.F__law_neg.kp T.b__law_neg (xa_cons (x_var 3) xa_nil) (hms := (mCons_len mNilL))) (xa_cons (x_tup (xa_cons x_int (xa_cons x_int xa_nil))) xa_nil)))) (x_bin opS_mod (x_bin opS_div (x_ix (x_var 2) x_int) x_int) x_int)))) xs_nil)
    (xs_cons (x_set 5 sc_law.nd (x_bin opS_mod (x_ix (x_var 2) x_int) x_int))
    (xs_cons (x_if (xt_not (x_truth (x_call (takes_of rfl rfl rfl rfl) (ok__law_same T 40) (hr.mono (by decide)) T.g__law_same T.F__law_same.kp T.b__law_same (xa_cons (x_lst (xa_cons (x_call (takes_of rfl rfl rfl rfl) (ok_plus T) (hr.mono (by decide)) T.g_plus T.F_plus.kp T.b_plus (xa_cons (x_var 3) (xa_cons (x_var 4) xa_nil)) (hms := (mCons_len (mCons_len mNilL)))) (xa_cons (x_call (takes_of rfl rfl rfl rfl) (ok_minus T) (hr.mono (by decide)) T.g_minus T.F_minus.kp T.b_minus (xa_cons (x_var 3) (xa_cons (x_var 4) xa_nil)) (hms := (mCons_len (mCons_len mNilL)))) (xa_cons (x_call (takes_of rfl rfl rfl rfl) (ok_times T) (hr.mono (by decide)) T.g_times T.F_times.kp T.b_times (xa_cons (x_var 3) (xa_cons (x_var 4) xa_nil)) (hms := (mCons_len (mCons_len mNilL)))) xa_nil)))) (xa_cons (x_lst (xa_cons (x_call (takes_of rfl rfl rfl rfl) (ok__law_add T) (hr.mono (by decide)) T.g__law_add T.F__law_add.kp T.b__law_add (xa_cons (x_var 3) (xa_cons (x_var 4) xa_nil)) (hms := (mCons_len (mCons_len mNilL)))) (xa_cons (x_call (takes_of rfl rfl rfl rfl) (ok__law_sub T) (hr.mono (by decide)) T.g__law_sub T.F__law_sub.kp T.b__law_sub (xa_cons (x_var 3) (xa_cons (x_var 4) xa_nil)) (hms := (mCons_len (mCons_len mNilL)))) (xa_cons (x_call (takes_of rfl rfl rfl rfl) (ok__law_mul T) (hr.mono (by decide)) T.g__law_mul T.F__law_mul.kp T.b__law_mul (xa_cons (x_var 3) (xa_cons (x_var 4) xa_nil)) (hms := (mCons_len (mCons_len mNilL)))) xa_nil)))) xa_nil)) (hms := (mCons_len (mCons_len mNilL)))))) (xs_one (x_ret x_bl)) xs_nil)
    (xs_cons (x_set 6 sc_law.nd x_non)
    (xs_cons (x_if (xt_cmp opS_ne (x_ix (x_var 4) x_int) x_int) (xs_one (x_set 6 sc_law.nd (x_call (takes_of rfl rfl rfl rfl) (ok__law_over T) (hr.mono (by decide)) T.g__law_over T.F__law_over.kp T.b__law_over (xa_cons (x_var 3) (xa_cons (x_var 4) xa_nil)) (hms := (mCons_len (mCons_len mNilL)))))) xs_nil)
    (xs_cons (x_if (xt_not (x_truth (x_call (takes_of rfl rfl rfl rfl) (ok__law_same T 40) (hr.mono (by decide)) T.g__law_same T.F__law_same.kp T.b__law_same (xa_cons (x_call (takes_of rfl rfl rfl rfl) (ok__law_quotient T) (hr.mono (by decide)) T.g__law_quotient T.F__law_quotient.kp T.b__law_quotient (xa_cons (x_var 3) (xa_cons (x_var 4) xa_nil)) (hms := (mCons_len (mCons_len mNilL)))) (xa_cons (x_var 6) xa_nil)) (hms := (mCons_len (mCons_len mNilL)))))) (xs_one (x_ret x_bl)) xs_nil)
    (xs_cons (x_if (xt_not (x_truth (x_call (takes_of rfl rfl rfl rfl) (ok__law_same T 40) (hr.mono (by decide)) T.g__law_same T.F__law_same.kp T.b__law_same (xa_cons (x_call (takes_of rfl rfl rfl rfl) (ok_power T) (hr.mono (by decide)) T.g_power T.F_power.kp T.b_power (xa_cons (x_var 3) (xa_cons (x_var 5) xa_nil)) (hms := (mCons_len (mCons_len mNilL)))) (xa_cons (x_call (takes_of rfl rfl rfl rfl) (ok__law_power T) (hr.mono (by decide)) T.g__law_power T.F__law_power.kp T.b__law_power (xa_cons (x_var 3) (xa_cons (x_var 5) xa_nil)) (hms := (mCons_len (mCons_len mNilL)))) xa_nil)) (hms := (mCons_len (mCons_len mNilL)))))) (xs_one (x_ret x_bl)) xs_nil)
    (xs_one (x_if (xt_not (x_truth (x_call (takes_of rfl rfl rfl rfl) (ok__law_is_number T) (hr.mono (by decide)) T.g__law_is_number T.F__law_is_number.kp T.b__law_is_number (xa_cons (x_call (takes_of rfl rfl rfl rfl) (ok_compare T) (hr.mono (by decide)) T.g_compare T.F_compare.kp T.b_compare (xa_cons (x_var 3) (xa_cons (x_var 4) xa_nil)) (hms := (mCons_len (mCons_len mNilL)))) (xa_cons (x_call (takes_of rfl rfl rfl rfl) (ok__law_sign T) (hr.mono (by decide)) T.g__law_sign T.F__law_sign.kp T.b__law_sign (xa_cons (x_call (takes_of rfl rfl rfl rfl) (ok__law_sub T) (hr.mono (by decide)) T.g__law_sub T.F__law_sub.kp T.b__law_sub (xa_cons (x_var 3) (xa_cons (x_var 4) xa_nil)) (hms := (mCons_len (mCons_len mNilL)))) xa_nil) (hms := (mCons_len mNilL))) xa_nil)) (hms := (mCons_len (mCons_len mNilL)))))) (xs_one (x_ret x_bl)) xs_nil)))))))))))))
    (xs_one (x_ret x_bl)))
end
end Gn
namespace Gn
open PySem PySem.Spec PyProof.Rows L2 Rf
set_option maxHeartbeats 4000000 in
theorem e_times {n : Nat} {x y : Rat} (hx : sz n x) (hy : sz n y) (S : Sto) (h0 : 0 < n := by omega) (hn : n ≤ 4000 := by omega) : F_times [nq x, nq y] S = some (.val (nq (x * y)) S) := by
  have p := mul_parts x y
  have g1 : (x.num.natAbs.gcd y.den : Nat) ≠ 0 := Nat.ne_of_gt (gcd_pos_r y.den_pos)
  have g2 : (y.num.natAbs.gcd x.den : Nat) ≠ 0 := Nat.ne_of_gt (gcd_pos_r x.den_pos)
  have s1 : szI n ((x.num.natAbs.gcd y.den : Nat) : Int) := hy.2.le (Nat.le_of_dvd y.den_pos (Nat.gcd_dvd_right _ _))
  have s2 : szI n ((y.num.natAbs.gcd x.den : Nat) : Int) := hx.2.le (Nat.le_of_dvd x.den_pos (Nat.gcd_dvd_right _ _))
  have d1 : divOk x.num ((x.num.natAbs.gcd y.den : Nat) : Int) = true := divOk_sz (by omega) s1
  have d2 : divOk y.num ((y.num.natAbs.gcd x.den : Nat) : Int) = true := divOk_sz (by omega) s2
  have d3 : divOk (x.den : Int) ((y.num.natAbs.gcd x.den : Nat) : Int) = true := divOk_sz (by omega) s2
  have d4 : divOk (y.den : Int) ((x.num.natAbs.gcd y.den : Nat) : Int) = true := divOk_sz (by omega) s1
  have m1 : mulOk (x.num / ((x.num.natAbs.gcd y.den : Nat) : Int)) (y.num / ((y.num.natAbs.gcd x.den : Nat) : Int)) = true := mulOk_sz (hx.1.le (Int.natAbs_ediv_le_natAbs _ _)) (hy.1.le (Int.natAbs_ediv_le_natAbs _ _))
  have m2 : mulOk ((x.den : Int) / ((y.num.natAbs.gcd x.den : Nat) : Int)) ((y.den : Int) / ((x.num.natAbs.gcd y.den : Nat) : Int)) = true := mulOk_sz (hx.2.le (Int.natAbs_ediv_le_natAbs _ _)) (hy.2.le (Int.natAbs_ediv_le_natAbs _ _))
  unfold F_times m_times
  have e1 := nq_of p.1.symm p.2.symm
  rw [← e1]
  unfold nq
  simp only [fnOf, sSeq, sSet, sAsg, sB, mB, mOp, mRet, mUn, mBi, mCons, mNil, mTup, tTp, tCons', tN, tNil', Option.bind_some, Option.map_some, List.map_cons, List.map_nil, List.length_cons, List.length_nil, List.replicate, List.cons_append, List.nil_append, sRet, var0, varS, set0, setS, gcd_ii, Int.natAbs_natCast, div_ii d1, div_ii d2, div_ii d3, div_ii d4, fdiv_nat, mul_ii m1, mul_ii m2, Nat.reduceAdd, Nat.reduceSub, Nat.reduceLeDiff, if_true]

set_option maxHeartbeats 4000000 in
theorem e_plus {n : Nat} {x y : Rat} (hx : sz n x) (hy : sz n y) (S : Sto) (h0 : 0 < n := by omega) (hn : n ≤ 4000 := by omega) : F_plus [nq x, nq y] S = some (.val (nq (x + y)) S) := by
  have p := add_parts x y
  have hg : (x.den.gcd y.den : Nat) ≠ 0 := Nat.ne_of_gt (gcd_pos_r y.den_pos)
  have sg : szI n ((x.den.gcd y.den : Nat) : Int) := hy.2.le (Nat.le_of_dvd y.den_pos (Nat.gcd_dvd_right _ _))
  have m1 : mulOk x.num (y.den : Int) = true := mulOk_sz hx.1 hy.2
  have m2 : mulOk (x.den : Int) y.num = true := mulOk_sz hx.2 hy.1
  have m3 : mulOk (x.den : Int) (y.den : Int) = true := mulOk_sz hx.2 hy.2
  have d1 : divOk (y.den : Int) ((x.den.gcd y.den : Nat) : Int) = true := divOk_sz (by omega) sg
  have d2 : divOk (x.den : Int) ((x.den.gcd y.den : Nat) : Int) = true := divOk_sz (by omega) sg
  have q1 : szI n ((y.den : Int) / ((x.den.gcd y.den : Nat) : Int)) := hy.2.le (Int.natAbs_ediv_le_natAbs _ _)
  have q2 : szI n ((x.den : Int) / ((x.den.gcd y.den : Nat) : Int)) := hx.2.le (Int.natAbs_ediv_le_natAbs _ _)
  have m4 := mulOk_sz hx.1 q1
  have m5 := mulOk_sz hy.1 q2
  have sl : ∀ a : Int, szI n ((a.natAbs.gcd (x.den.gcd y.den) : Nat) : Int) := fun a => sg.le (Nat.le_of_dvd (by omega) (Nat.gcd_dvd_right _ _))
  have hl : ∀ a : Int, (a.natAbs.gcd (x.den.gcd y.den) : Nat) ≠ 0 := fun a => Nat.ne_of_gt (gcd_pos_r (by omega))
  have d3 : ∀ a b : Int, divOk b ((a.natAbs.gcd (x.den.gcd y.den) : Nat) : Int) = true := fun a b => divOk_sz (by have := hl a; omega) (sl a)
  have m6 : ∀ a : Int, mulOk ((x.den : Int) / ((x.den.gcd y.den : Nat) : Int)) ((y.den : Int) / ((a.natAbs.gcd (x.den.gcd y.den) : Nat) : Int)) = true := fun a => mulOk_sz q2 (hy.2.le (Int.natAbs_ediv_le_natAbs _ _))
  unfold F_plus m_plus
  by_cases c : x.den.gcd y.den = 1
  · obtain ⟨p1, p2⟩ := p.1 c
    have e1 := nq_of p1.symm p2.symm
    rw [← e1]
    unfold nq
    have c' : ((x.den.gcd y.den : Nat) : Int) = 1 := by rw [c]; rfl
    simp only [fnOf, sSeq, sSet, sAsg, sB, mB, mOp, mRet, mUn, mBi, mCons, mNil, mTup, mCall, tTp, tCons', tN, tNil', Option.bind_some, Option.map_some, List.map_cons, List.map_nil, List.length_cons, List.length_nil, List.replicate, List.cons_append, List.nil_append, sRet, sIf, mT, mTru, mIf, mAnd, mOr, mNotB, sNil, var0, varS, set0, setS, ix0, ix1, add_ii, sub_ii, lt_ii, le_ii, gt_ii, ge_ii, eq_ii, ne_ii, neg_i, gcd_ii, abs_i, int_i, int_b, tru_b, Nat.reduceAdd, Nat.reduceSub, Nat.reduceLeDiff, if_true, Int.natAbs_natCast, c', decide_true, mul_ii m1, mul_ii m2, mul_ii m3]
  · obtain ⟨p1, p2⟩ := p.2 c
    have e1 := nq_of p1.symm p2.symm
    rw [← e1]
    unfold nq
    have c' : decide (((x.den.gcd y.den : Nat) : Int) = 1) = false := decide_eq_false (by omega)
    simp only [fnOf, sSeq, sSet, sAsg, sB, mB, mOp, mRet, mUn, mBi, mCons, mNil, mTup, mCall, tTp, tCons', tN, tNil', Option.bind_some, Option.map_some, List.map_cons, List.map_nil, List.length_cons, List.length_nil, List.replicate, List.cons_append, List.nil_append, sRet, sIf, mT, mTru, mIf, mAnd, mOr, mNotB, sNil, var0, varS, set0, setS, ix0, ix1, add_ii, sub_ii, lt_ii, le_ii, gt_ii, ge_ii, eq_ii, ne_ii, neg_i, gcd_ii, abs_i, int_i, int_b, tru_b, Nat.reduceAdd, Nat.reduceSub, Nat.reduceLeDiff, if_true, Int.natAbs_natCast, c', mul_ii m4, mul_ii m5, div_ii d1, div_ii d2, div_ii (d3 _ _), fdiv_nat, mul_ii (m6 _)]
theorem e_minus {n : Nat} {x y : Rat} (hx : sz n x) (hy : sz n y) (S : Sto) (h0 : 0 < n := by omega) (hn : n ≤ 4000 := by omega) : F_minus [nq x, nq y] S = some (.val (nq (x - y)) S) := by
  have e : F_minus [nq x, nq y] S = (match F_plus [nq x, nq (-y)] S with
    | some (.val d S') => some (.val d S')
    | some (.exc c S') => some (.exc c S')
    | none => none) := by
    unfold F_minus m_minus
    have hneg : nq (-y) = .tup [.int (-y.num), .int (y.den : Int)] := rfl
    rw [hneg]
    unfold nq
    simp only [fnOf, sSeq, sSet, sAsg, sB, mB, mOp, mRet, mUn, mBi, mCons, mNil, mTup, mCall, tTp, tCons', tN, tNil', Option.bind_some, Option.map_some, List.map_cons, List.map_nil, List.length_cons, List.length_nil, List.replicate, List.cons_append, List.nil_append, sRet, sIf, mT, mTru, mIf, mAnd, mOr, mNotB, sNil, var0, varS, set0, setS, ix0, ix1, add_ii, sub_ii, lt_ii, le_ii, gt_ii, ge_ii, eq_ii, ne_ii, neg_i, gcd_ii, abs_i, int_i, int_b, tru_b, Nat.reduceAdd, Nat.reduceSub, Nat.reduceLeDiff, if_true]
    generalize F_plus [.tup [.int x.num, .int (x.den : Int)], .tup [.int (-y.num), .int (y.den : Int)]] S = r
    cases r with
    | none => rfl
    | some r => cases r <;> rfl
  rw [e, e_plus hx (sz_neg hy) S, Rat.sub_eq_add_neg]
theorem e_compare {n : Nat} {x y : Rat} (hx : sz n x) (hy : sz n y) (S : Sto) (h0 : 0 < n := by omega) (hn : n ≤ 4000 := by omega) : F_compare [nq x, nq y] S = some (.val (.int (if x < y then -1 else if y < x then 1 else 0)) S) := by
  have m1 : mulOk x.num (y.den : Int) = true := mulOk_sz hx.1 hy.2
  have m2 : mulOk y.num (x.den : Int) = true := mulOk_sz hy.1 hx.2
  have l1 : decide (x.num * (y.den : Int) < y.num * (x.den : Int)) = decide (x < y) := by simp only [Rat.lt_iff]
  have l2 : decide (y.num * (x.den : Int) < x.num * (y.den : Int)) = decide (y < x) := by simp only [Rat.lt_iff]
  unfold F_compare m_compare nq
  by_cases c : x < y
  · simp only [fnOf, sSeq, sSet, sAsg, sB, mB, mOp, mRet, mUn, mBi, mCons, mNil, mTup, mCall, tTp, tCons', tN, tNil', Option.bind_some, Option.map_some, List.map_cons, List.map_nil, List.length_cons, List.length_nil, List.replicate, List.cons_append, List.nil_append, sRet, sIf, mT, mTru, mIf, mAnd, mOr, mNotB, sNil, var0, varS, set0, setS, ix0, ix1, add_ii, sub_ii, lt_ii, le_ii, gt_ii, ge_ii, eq_ii, ne_ii, neg_i, gcd_ii, abs_i, int_i, int_b, tru_b, Nat.reduceAdd, Nat.reduceSub, Nat.reduceLeDiff, if_true, mul_ii m1, mul_ii m2, l1, l2, c, decide_true, if_true]
  · by_cases c2 : y < x
    · simp only [fnOf, sSeq, sSet, sAsg, sB, mB, mOp, mRet, mUn, mBi, mCons, mNil, mTup, mCall, tTp, tCons', tN, tNil', Option.bind_some, Option.map_some, List.map_cons, List.map_nil, List.length_cons, List.length_nil, List.replicate, List.cons_append, List.nil_append, sRet, sIf, mT, mTru, mIf, mAnd, mOr, mNotB, sNil, var0, varS, set0, setS, ix0, ix1, add_ii, sub_ii, lt_ii, le_ii, gt_ii, ge_ii, eq_ii, ne_ii, neg_i, gcd_ii, abs_i, int_i, int_b, tru_b, Nat.reduceAdd, Nat.reduceSub, Nat.reduceLeDiff, if_true, mul_ii m1, mul_ii m2, l1, l2, c, c2, decide_true, decide_false, if_true, if_false]
    · simp only [fnOf, sSeq, sSet, sAsg, sB, mB, mOp, mRet, mUn, mBi, mCons, mNil, mTup, mCall, tTp, tCons', tN, tNil', Option.bind_some, Option.map_some, List.map_cons, List.map_nil, List.length_cons, List.length_nil, List.replicate, List.cons_append, List.nil_append, sRet, sIf, mT, mTru, mIf, mAnd, mOr, mNotB, sNil, var0, varS, set0, setS, ix0, ix1, add_ii, sub_ii, lt_ii, le_ii, gt_ii, ge_ii, eq_ii, ne_ii, neg_i, gcd_ii, abs_i, int_i, int_b, tru_b, Nat.reduceAdd, Nat.reduceSub, Nat.reduceLeDiff, if_true, mul_ii m1, mul_ii m2, l1, l2, c, c2, decide_true, decide_false, if_true, if_false]
/-! ### the law's own divisor -/
def ga (i : Int) : Int := if i < 0 then -i else i
theorem ga_nat (i : Int) : ga i = (i.natAbs : Int) := by
  unfold ga
  split <;> omega
theorem e_gcd_loop : ∀ (b n : Nat) (a : Nat) (S : Sto), b < n → loopW L0__law_gcd L1__law_gcd n [some (.int (a : Int)), some (.int (b : Int))] S = some (.nx [some (.int (Nat.gcd a b : Nat)), some (.int 0)] S) := by
  intro b
  induction b using Nat.strongRecOn with
  | _ b ih =>
    intro n a S hn
    obtain ⟨k, rfl⟩ : ∃ k, n = k + 1 := ⟨n - 1, by omega⟩
    by_cases c : b = 0
    · subst c
      refine (loopW_false (S1 := S) ?_).trans ?_
      · unfold L0__law_gcd
        simp only [fnOf, sSeq, sSet, sAsg, sB, mB, mOp, mRet, mUn, mBi, mCons, mNil, mTup, mCall, tTp, tCons', tN, tNil', Option.bind_some, Option.map_some, List.map_cons, List.map_nil, List.length_cons, List.length_nil, List.replicate, List.cons_append, List.nil_append, sRet, sIf, mT, mTru, mIf, mAnd, mOr, mNotB, sNil, sEx, sPar, var0, varS, set0, setS, ix0, ix1, add_ii, sub_ii, lt_ii, le_ii, gt_ii, ge_ii, eq_ii, ne_ii, neg_i, gcd_ii, abs_i, int_i, int_b, tru_b, Nat.reduceAdd, Nat.reduceSub, Nat.reduceLeDiff, if_true, show ((0 : Nat) : Int) = 0 from rfl, decide_true, Bool.not_true]
      · rw [Nat.gcd_zero_right]
        rfl
    · have hb : (b : Int) ≠ 0 := by omega
      have hb' : decide ((b : Int) = 0) = false := decide_eq_false hb
      have hm : (a : Int).fmod (b : Int) = ((a % b : Nat) : Int) := by
        rw [Int.fmod_eq_emod_of_nonneg _ (by omega)]
        rfl
      refine (loopW_true (S1 := S) (S' := S) (ρ' := [some (.int (b : Int)), some (.int ((a % b : Nat) : Int))]) ?_ ?_).trans ?_
      · unfold L0__law_gcd
        simp only [fnOf, sSeq, sSet, sAsg, sB, mB, mOp, mRet, mUn, mBi, mCons, mNil, mTup, mCall, tTp, tCons', tN, tNil', Option.bind_some, Option.map_some, List.map_cons, List.map_nil, List.length_cons, List.length_nil, List.replicate, List.cons_append, List.nil_append, sRet, sIf, mT, mTru, mIf, mAnd, mOr, mNotB, sNil, sEx, sPar, var0, varS, set0, setS, ix0, ix1, add_ii, sub_ii, lt_ii, le_ii, gt_ii, ge_ii, eq_ii, ne_ii, neg_i, gcd_ii, abs_i, int_i, int_b, tru_b, Nat.reduceAdd, Nat.reduceSub, Nat.reduceLeDiff, if_true, hb', Bool.not_false]
      · unfold L1__law_gcd
        simp only [fnOf, sSeq, sSet, sAsg, sB, mB, mOp, mRet, mUn, mBi, mCons, mNil, mTup, mCall, tTp, tCons', tN, tNil', Option.bind_some, Option.map_some, List.map_cons, List.map_nil, List.length_cons, List.length_nil, List.replicate, List.cons_append, List.nil_append, sRet, sIf, mT, mTru, mIf, mAnd, mOr, mNotB, sNil, sEx, sPar, var0, varS, set0, setS, ix0, ix1, add_ii, sub_ii, lt_ii, le_ii, gt_ii, ge_ii, eq_ii, ne_ii, neg_i, gcd_ii, abs_i, int_i, int_b, tru_b, Nat.reduceAdd, Nat.reduceSub, Nat.reduceLeDiff, if_true, mod_ii hb, hm]
      · rw [ih (a % b) (Nat.mod_lt _ (by omega)) k b S (by have := Nat.mod_lt a (show 0 < b by omega); omega)]
        rw [Nat.gcd_comm b, ← Nat.gcd_rec, Nat.gcd_comm]
theorem e_gcd {n : Nat} {a b : Int} (hb : szI n b) (S : Sto) (hn : n ≤ 1000000 := by omega) : F__law_gcd [.int a, .int b] S = some (.val (.int (Nat.gcd a.natAbs b.natAbs : Nat)) S) := by
  have hf : b.natAbs < fuel := lt_fuel hb (by omega)
  have l := e_gcd_loop b.natAbs fuel a.natAbs S hf
  unfold F__law_gcd m__law_gcd
  have e1 : (if a < 0 then -a else a) = (a.natAbs : Int) := ga_nat a
  have e2 : (if b < 0 then -b else b) = (b.natAbs : Int) := ga_nat b
  simp only [fnOf, sSeq, sSet, sAsg, sB, mB, mOp, mRet, mUn, mBi, mCons, mNil, mTup, mCall, tTp, tCons', tN, tNil', Option.bind_some, Option.map_some, List.map_cons, List.map_nil, List.length_cons, List.length_nil, List.replicate, List.cons_append, List.nil_append, sRet, sIf, mT, mTru, mIf, mAnd, mOr, mNotB, sNil, sEx, sPar, var0, varS, set0, setS, ix0, ix1, add_ii, sub_ii, lt_ii, le_ii, gt_ii, ge_ii, eq_ii, ne_ii, neg_i, gcd_ii, abs_i, int_i, int_b, tru_b, Nat.reduceAdd, Nat.reduceSub, Nat.reduceLeDiff, if_true, sWhile, e1, e2, l]
theorem frac_pos {a : Int} {b : Int} (hb : 0 < b) : (Rat.divInt a b).num = a / ((a.natAbs.gcd b.natAbs : Nat) : Int) ∧ ((Rat.divInt a b).den : Int) = b / ((a.natAbs.gcd b.natAbs : Nat) : Int) := by
  obtain ⟨m, rfl⟩ : ∃ m : Nat, b = m := ⟨b.toNat, by omega⟩
  have hm : m ≠ 0 := by omega
  rw [Rat.divInt_ofNat]
  unfold mkRat
  rw [dif_neg hm, Rat.normalize_eq]
  exact ⟨rfl, rfl⟩
theorem frac_neg {a : Int} {b : Int} (hb : b < 0) : (Rat.divInt a b).num = (-a) / ((a.natAbs.gcd b.natAbs : Nat) : Int) ∧ ((Rat.divInt a b).den : Int) = (-b) / ((a.natAbs.gcd b.natAbs : Nat) : Int) := by
  have h := frac_pos (a := -a) (b := -b) (by omega)
  rw [Int.natAbs_neg, Int.natAbs_neg] at h
  have e : Rat.divInt a b = Rat.divInt (-a) (-b) := by
    obtain ⟨m, rfl⟩ : ∃ m : Nat, b = Int.negSucc m := ⟨(-b - 1).toNat, by omega⟩
    show Rat.normalize (-a) m.succ (by omega) = mkRat (-a) (m + 1)
    unfold mkRat
    rw [dif_neg (by omega)]
  rw [e]
  exact h
theorem e_frac {n : Nat} {a b : Int} (hb0 : b ≠ 0) (hb : szI n b) (S : Sto) (h0 : 0 < n := by omega) (hn : n ≤ 9000 := by omega) : F__law_frac [.int a, .int b] S = some (.val (nq (Rat.divInt a b)) S) := by
  have eg := e_gcd (a := a) hb S (by omega)
  have g1 : (a.natAbs.gcd b.natAbs : Nat) ≠ 0 := Nat.ne_of_gt (gcd_pos_r (by omega))
  have sg : szI n ((a.natAbs.gcd b.natAbs : Nat) : Int) := hb.le (Nat.le_of_dvd (by omega) (Nat.gcd_dvd_right _ _))
  unfold F__law_frac m__law_frac
  by_cases c : b < 0
  · obtain ⟨p1, p2⟩ := frac_neg (a := a) c
    rw [← nq_of p1.symm p2.symm]
    have d1 : ∀ x, divOk x (-((a.natAbs.gcd b.natAbs : Nat) : Int)) = true := fun x => divOk_sz (by omega) sg.neg
    have n1 : ∀ x : Int, x.fdiv (-((a.natAbs.gcd b.natAbs : Nat) : Int)) = (-x) / ((a.natAbs.gcd b.natAbs : Nat) : Int) := fun x => by
      have := Int.neg_fdiv_neg (-x) ((a.natAbs.gcd b.natAbs : Nat) : Int)
      rw [Int.neg_neg] at this
      rw [this, fdiv_nat]
    simp only [fnOf, sSeq, sSet, sAsg, sB, mB, mOp, mRet, mUn, mBi, mCons, mNil, mTup, mCall, tTp, tCons', tN, tNil', Option.bind_some, Option.map_some, List.map_cons, List.map_nil, List.length_cons, List.length_nil, List.replicate, List.cons_append, List.nil_append, sRet, sIf, mT, mTru, mIf, mAnd, mOr, mNotB, sNil, sEx, sPar, var0, varS, set0, setS, ix0, ix1, add_ii, sub_ii, lt_ii, le_ii, gt_ii, ge_ii, eq_ii, ne_ii, neg_i, gcd_ii, abs_i, int_i, int_b, tru_b, Nat.reduceAdd, Nat.reduceSub, Nat.reduceLeDiff, if_true, eg, c, decide_true, div_ii (d1 _), n1]
  · obtain ⟨p1, p2⟩ := frac_pos (a := a) (b := b) (by omega)
    rw [← nq_of p1.symm p2.symm]
    have d1 : ∀ x, divOk x ((a.natAbs.gcd b.natAbs : Nat) : Int) = true := fun x => divOk_sz (by omega) sg
    simp only [fnOf, sSeq, sSet, sAsg, sB, mB, mOp, mRet, mUn, mBi, mCons, mNil, mTup, mCall, tTp, tCons', tN, tNil', Option.bind_some, Option.map_some, List.map_cons, List.map_nil, List.length_cons, List.length_nil, List.replicate, List.cons_append, List.nil_append, sRet, sIf, mT, mTru, mIf, mAnd, mOr, mNotB, sNil, sEx, sPar, var0, varS, set0, setS, ix0, ix1, add_ii, sub_ii, lt_ii, le_ii, gt_ii, ge_ii, eq_ii, ne_ii, neg_i, gcd_ii, abs_i, int_i, int_b, tru_b, Nat.reduceAdd, Nat.reduceSub, Nat.reduceLeDiff, if_true, eg, c, decide_false, div_ii (d1 _), fdiv_nat]
theorem sz_frac {n : Nat} {a b : Int} (hb0 : b ≠ 0) (ha : szI n a) (hb : szI n b) : sz n (Rat.divInt a b) := by
  by_cases c : b < 0
  · obtain ⟨p1, p2⟩ := frac_neg (a := a) c
    refine ⟨?_, ?_⟩
    · rw [p1]; exact ha.neg.le (Int.natAbs_ediv_le_natAbs _ _)
    · rw [p2]; exact hb.neg.le (Int.natAbs_ediv_le_natAbs _ _)
  · obtain ⟨p1, p2⟩ := frac_pos (a := a) (b := b) (by omega)
    refine ⟨?_, ?_⟩
    · rw [p1]; exact ha.le (Int.natAbs_ediv_le_natAbs _ _)
    · rw [p2]; exact hb.le (Int.natAbs_ediv_le_natAbs _ _)
/-! ### the script's cells and draws -/
theorem e_cell {ns : List Int} {k : Nat} (S : Sto) : ∃ c : Int, F__law_cell [.fro (ns.map D.int), .int (k : Int)] S = some (.val (.int c) S) := by
  unfold F__law_cell m__law_cell
  have hl : gLen [.fro (ns.map D.int)] S = some (.int (ns.length : Int), S) := by
    unfold gLen itemsOf
    simp
  by_cases c : k < ns.length
  · have c' : decide ((k : Int) < (ns.length : Int)) = true := decide_eq_true (by omega)
    refine ⟨ns[k], ?_⟩
    have hx : gIx (.fro (ns.map D.int)) (.int (k : Int)) S = some (.int ns[k], S) := by
      unfold gIx
      dsimp only
      show (some (ns.map D.int)).bind _ = _
      rw [Option.bind_some, atI_nat (v := .int ns[k]) (by rw [List.getElem?_map, List.getElem?_eq_getElem c]; rfl)]
      rfl
    simp only [fnOf, sSeq, sSet, sAsg, sB, mB, mOp, mRet, mUn, mBi, mCons, mNil, mTup, mCall, tTp, tCons', tN, tNil', Option.bind_some, Option.map_some, List.map_cons, List.map_nil, List.length_cons, List.length_nil, List.replicate, List.cons_append, List.nil_append, sRet, sIf, mT, mTru, mIf, mAnd, mOr, mNotB, sNil, sEx, sPar, var0, varS, set0, setS, ix0, ix1, add_ii, sub_ii, lt_ii, le_ii, gt_ii, ge_ii, eq_ii, ne_ii, neg_i, gcd_ii, abs_i, int_i, int_b, tru_b, Nat.reduceAdd, Nat.reduceSub, Nat.reduceLeDiff, if_true, hl, c', hx]
  · have c' : decide ((k : Int) < (ns.length : Int)) = false := decide_eq_false (by omega)
    exact ⟨0, by simp only [fnOf, sSeq, sSet, sAsg, sB, mB, mOp, mRet, mUn, mBi, mCons, mNil, mTup, mCall, tTp, tCons', tN, tNil', Option.bind_some, Option.map_some, List.map_cons, List.map_nil, List.length_cons, List.length_nil, List.replicate, List.cons_append, List.nil_append, sRet, sIf, mT, mTru, mIf, mAnd, mOr, mNotB, sNil, sEx, sPar, var0, varS, set0, setS, ix0, ix1, add_ii, sub_ii, lt_ii, le_ii, gt_ii, ge_ii, eq_ii, ne_ii, neg_i, gcd_ii, abs_i, int_i, int_b, tru_b, Nat.reduceAdd, Nat.reduceSub, Nat.reduceLeDiff, if_true, hl, c']⟩
theorem mulOk_r {i : Int} {n : Nat} (h : n < 2 ^ 63) : mulOk i (n : Int) = true := by
  unfold mulOk
  rw [Bool.or_eq_true, Bool.or_eq_true]
  exact .inl (.inr (decide_eq_true (by omega)))
theorem mulOk_l {i j : Int} (h : i.natAbs < 2 ^ 63) : mulOk i j = true := by
  unfold mulOk
  rw [Bool.or_eq_true, Bool.or_eq_true]
  exact .inl (.inl (decide_eq_true h))
theorem divOk_lit {i j : Int} (h : j ≠ 0) (h2 : j.natAbs < 2 ^ 63) : divOk i j = true := divOk_sz (n := 63) h h2
theorem fm {x m : Int} (h : 0 < m) : 0 ≤ x.fmod m ∧ x.fmod m < m := by
  rw [Int.fmod_eq_emod_of_nonneg _ (by omega)]
  exact ⟨Int.emod_nonneg _ (by omega), Int.emod_lt_of_pos _ h⟩
theorem e_draw_turn {cell left k : Int} {count : D} {x4 x5 : Option D} {S : Sto} {rows : List D} (hr : rows.length < 1000) (hk : k.natAbs < 2 ^ 60) : ∃ (r left' : Int) (x5' : Option D), 0 ≤ r ∧ r < 4096 ∧
    L0__law_draws [some (.int cell), some count, some (.ref S.length), some (.int left), some (.int k), x5] (S ++ [.lst rows]) = some (.nx [some (.int cell), some count, some (.ref S.length), some (.int left'), some (.int k), x5'] (S ++ [.lst (rows ++ [.int r])])) := by
  unfold L0__law_draws
  have d1 : ∀ i : Int, gDiv (.int i) (.int 4096) (S ++ [.lst (rows ++ [.int (left.fmod 4096)])]) = some (.int (i.fdiv 4096), S ++ [.lst (rows ++ [.int (left.fmod 4096)])]) := fun i => div_ii (divOk_lit (by decide) (by decide))
  by_cases c : 1000000000000000000 ≤ cell ∧ 0 < left
  · refine ⟨left.fmod 4096, left.fdiv 4096, x5, (fm (by decide)).1, (fm (by decide)).2, ?_⟩
    have ap := app_last (mo := mVar 2) (me := mOp gMod (mBi gInt (mCons (mVar 3) mNil)) (mRet (.int 4096))) (ρ := [some (.int cell), some count, some (.ref S.length), some (.int left), some (.int k), x5]) (S := S) (k := S.length) (xs := rows) (d := .int (left.fmod 4096)) rfl (by simp only [fnOf, sSeq, sSet, sAsg, sB, mB, mOp, mRet, mUn, mBi, mCons, mNil, mTup, mCall, tTp, tCons', tN, tNil', Option.bind_some, Option.map_some, List.map_cons, List.map_nil, List.length_cons, List.length_nil, List.replicate, List.cons_append, List.nil_append, sRet, sIf, mT, mTru, mIf, mAnd, mOr, mNotB, sNil, sEx, sPar, var0, varS, set0, setS, ix0, ix1, add_ii, sub_ii, lt_ii, le_ii, gt_ii, ge_ii, eq_ii, ne_ii, neg_i, gcd_ii, abs_i, int_i, int_b, tru_b, Nat.reduceAdd, Nat.reduceSub, Nat.reduceLeDiff, if_true]) (by simp only [fnOf, sSeq, sSet, sAsg, sB, mB, mOp, mRet, mUn, mBi, mCons, mNil, mTup, mCall, tTp, tCons', tN, tNil', Option.bind_some, Option.map_some, List.map_cons, List.map_nil, List.length_cons, List.length_nil, List.replicate, List.cons_append, List.nil_append, sRet, sIf, mT, mTru, mIf, mAnd, mOr, mNotB, sNil, sEx, sPar, var0, varS, set0, setS, ix0, ix1, add_ii, sub_ii, lt_ii, le_ii, gt_ii, ge_ii, eq_ii, ne_ii, neg_i, gcd_ii, abs_i, int_i, int_b, tru_b, Nat.reduceAdd, Nat.reduceSub, Nat.reduceLeDiff, if_true, mod_ii (show (4096 : Int) ≠ 0 by decide)]) (by omega)
    simp only [mOp, mB, mBi, mCons, mNil, mRet] at ap
    simp only [fnOf, sSeq, sSet, sAsg, sB, mB, mOp, mRet, mUn, mBi, mCons, mNil, mTup, mCall, tTp, tCons', tN, tNil', Option.bind_some, Option.map_some, List.map_cons, List.map_nil, List.length_cons, List.length_nil, List.replicate, List.cons_append, List.nil_append, sRet, sIf, mT, mTru, mIf, mAnd, mOr, mNotB, sNil, sEx, sPar, var0, varS, set0, setS, ix0, ix1, add_ii, sub_ii, lt_ii, le_ii, gt_ii, ge_ii, eq_ii, ne_ii, neg_i, gcd_ii, abs_i, int_i, int_b, tru_b, Nat.reduceAdd, Nat.reduceSub, Nat.reduceLeDiff, if_true, pow_1018, c.1, c.2, decide_true, ap, d1]
  · have e48 : gMul (.int cell) (.int 48271) (S ++ [.lst rows]) = some (.int (cell * 48271), S ++ [.lst rows]) := mul_ii (mulOk_r (n := 48271) (by decide))
    have e69 : gMul (.int (k + 1)) (.int 69621) (S ++ [.lst rows]) = some (.int ((k + 1) * 69621), S ++ [.lst rows]) := mul_ii (mulOk_r (n := 69621) (by decide))
    have e79 : gMul (.int k) (.int 7919) (S ++ [.lst rows]) = some (.int (k * 7919), S ++ [.lst rows]) := mul_ii (mulOk_r (n := 7919) (by decide))
    have e13 : gMul (.int 13) (.int k) (S ++ [.lst rows]) = some (.int (13 * k), S ++ [.lst rows]) := mul_ii (mulOk_l (by decide))
    have b1 := fm (x := cell * 48271 + (k + 1) * 69621) (m := 2147483647) (by decide)
    generalize hm1 : (cell * 48271 + (k + 1) * 69621).fmod 2147483647 = m1 at b1
    have q1 : gMul (.int m1) (.int m1) (S ++ [.lst rows]) = some (.int (m1 * m1), S ++ [.lst rows]) := mul_ii (mulOk_l (by omega))
    have q2 : gMul (.int m1) (.int 16807) (S ++ [.lst rows]) = some (.int (m1 * 16807), S ++ [.lst rows]) := mul_ii (mulOk_l (by omega))
    have b2 := fm (x := m1 * m1 + m1 * 16807 + k * 7919) (m := 2147483629) (by decide)
    generalize hm2 : (m1 * m1 + m1 * 16807 + k * 7919).fmod 2147483629 = m2 at b2
    have q3 : gMul (.int m2) (.int m2) (S ++ [.lst rows]) = some (.int (m2 * m2), S ++ [.lst rows]) := mul_ii (mulOk_l (by omega))
    generalize hm3 : (m2 * m2 + cell + 13 * k).fmod 2147483587 = m3
    have q7 : ∀ S' : Sto, gDiv (.int m3) (.int 7) S' = some (.int (m3.fdiv 7), S') := fun S' => div_ii (divOk_lit (by decide) (by decide))
    have o1 : ∀ x S', gMod (.int x) (.int 2147483647) S' = some (.int (x.fmod 2147483647), S') := fun x S' => mod_ii (by decide)
    have o2 : ∀ x S', gMod (.int x) (.int 2147483629) S' = some (.int (x.fmod 2147483629), S') := fun x S' => mod_ii (by decide)
    have o3 : ∀ x S', gMod (.int x) (.int 2147483587) S' = some (.int (x.fmod 2147483587), S') := fun x S' => mod_ii (by decide)
    have o4 : ∀ x S', gMod (.int x) (.int 4096) S' = some (.int (x.fmod 4096), S') := fun x S' => mod_ii (by decide)
    refine ⟨(m3.fdiv 7).fmod 4096, left, some (.int m3), (fm (by decide)).1, (fm (by decide)).2, ?_⟩
    have ap := app_last (mo := mVar 2) (me := mOp gMod (mOp gDiv (mVar 5) (mRet (.int 7))) (mRet (.int 4096))) (ρ := [some (.int cell), some count, some (.ref S.length), some (.int left), some (.int k), some (.int m3)]) (S := S) (k := S.length) (xs := rows) (d := .int ((m3.fdiv 7).fmod 4096)) rfl (by simp only [fnOf, sSeq, sSet, sAsg, sB, mB, mOp, mRet, mUn, mBi, mCons, mNil, mTup, mCall, tTp, tCons', tN, tNil', Option.bind_some, Option.map_some, List.map_cons, List.map_nil, List.length_cons, List.length_nil, List.replicate, List.cons_append, List.nil_append, sRet, sIf, mT, mTru, mIf, mAnd, mOr, mNotB, sNil, sEx, sPar, var0, varS, set0, setS, ix0, ix1, add_ii, sub_ii, lt_ii, le_ii, gt_ii, ge_ii, eq_ii, ne_ii, neg_i, gcd_ii, abs_i, int_i, int_b, tru_b, Nat.reduceAdd, Nat.reduceSub, Nat.reduceLeDiff, if_true]) (by simp only [fnOf, sSeq, sSet, sAsg, sB, mB, mOp, mRet, mUn, mBi, mCons, mNil, mTup, mCall, tTp, tCons', tN, tNil', Option.bind_some, Option.map_some, List.map_cons, List.map_nil, List.length_cons, List.length_nil, List.replicate, List.cons_append, List.nil_append, sRet, sIf, mT, mTru, mIf, mAnd, mOr, mNotB, sNil, sEx, sPar, var0, varS, set0, setS, ix0, ix1, add_ii, sub_ii, lt_ii, le_ii, gt_ii, ge_ii, eq_ii, ne_ii, neg_i, gcd_ii, abs_i, int_i, int_b, tru_b, Nat.reduceAdd, Nat.reduceSub, Nat.reduceLeDiff, if_true, q7, o4]) (by omega)
    simp only [mOp, mB, mRet] at ap
    by_cases c1 : 1000000000000000000 ≤ cell
    · have c2 : decide (0 < left) = false := decide_eq_false (by omega)
      simp only [fnOf, sSeq, sSet, sAsg, sB, mB, mOp, mRet, mUn, mBi, mCons, mNil, mTup, mCall, tTp, tCons', tN, tNil', Option.bind_some, Option.map_some, List.map_cons, List.map_nil, List.length_cons, List.length_nil, List.replicate, List.cons_append, List.nil_append, sRet, sIf, mT, mTru, mIf, mAnd, mOr, mNotB, sNil, sEx, sPar, var0, varS, set0, setS, ix0, ix1, add_ii, sub_ii, lt_ii, le_ii, gt_ii, ge_ii, eq_ii, ne_ii, neg_i, gcd_ii, abs_i, int_i, int_b, tru_b, Nat.reduceAdd, Nat.reduceSub, Nat.reduceLeDiff, if_true, pow_1018, c1, c2, decide_true, e48, e69, e79, e13, o1, o2, o3, hm1, hm2, hm3, q1, q2, q3, ap]
    · simp only [fnOf, sSeq, sSet, sAsg, sB, mB, mOp, mRet, mUn, mBi, mCons, mNil, mTup, mCall, tTp, tCons', tN, tNil', Option.bind_some, Option.map_some, List.map_cons, List.map_nil, List.length_cons, List.length_nil, List.replicate, List.cons_append, List.nil_append, sRet, sIf, mT, mTru, mIf, mAnd, mOr, mNotB, sNil, sEx, sPar, var0, varS, set0, setS, ix0, ix1, add_ii, sub_ii, lt_ii, le_ii, gt_ii, ge_ii, eq_ii, ne_ii, neg_i, gcd_ii, abs_i, int_i, int_b, tru_b, Nat.reduceAdd, Nat.reduceSub, Nat.reduceLeDiff, if_true, pow_1018, c1, decide_false, e48, e69, e79, e13, o1, o2, o3, hm1, hm2, hm3, q1, q2, q3, ap]
theorem e_draw_loop {cell : Int} {count : D} {S : Sto} : ∀ (n : Nat) (lo left : Int) (x4 x5 : Option D) (rows : List D), rows.length + n < 1000 → 0 ≤ lo → lo + (n : Int) < 2 ^ 40 → ∃ (new : List Int) (left' : Int) (x4' x5' : Option D), new.length = n ∧ (∀ r ∈ new, 0 ≤ r ∧ r < 4096) ∧
    forI (tN 4) L0__law_draws (rngD lo n) [some (.int cell), some count, some (.ref S.length), some (.int left), x4, x5] (S ++ [.lst rows]) = some (.nx [some (.int cell), some count, some (.ref S.length), some (.int left'), x4', x5'] (S ++ [.lst (rows ++ new.map D.int)]))
  | 0, lo, left, x4, x5, rows, h, h1, h2 => ⟨[], left, x4, x5, rfl, fun r hr => absurd hr (by simp), by rw [List.map_nil, List.append_nil]; rfl⟩
  | n + 1, lo, left, x4, x5, rows, h, h1, h2 => by
    obtain ⟨r, left1, x5', r0, r1, e⟩ := e_draw_turn (cell := cell) (left := left) (k := lo) (count := count) (x4 := x4) (x5 := x5) (S := S) (rows := rows) (by omega) (by omega)
    obtain ⟨new, left2, x4'', x5'', hl, hb, e2⟩ := e_draw_loop n (lo + 1) left1 (some (.int lo)) x5' (rows ++ [.int r]) (by rw [List.length_append, List.length_singleton]; omega) (by omega) (by omega)
    refine ⟨r :: new, left2, x4'', x5'', by rw [List.length_cons, hl], fun z hz => ?_, ?_⟩
    · rcases List.mem_cons.mp hz with rfl | hz
      · exact ⟨r0, r1⟩
      · exact hb z hz
    · rw [rngD_succ]
      refine (forI_nx (ρ1 := [some (.int cell), some count, some (.ref S.length), some (.int left), some (.int lo), x5]) rfl e).trans ?_
      rw [e2, List.map_cons, List.append_assoc, List.singleton_append]
/-- so many draws, each from 0 to 4095 -/
theorem e_draws (cell : Int) (n : Nat) (S : Sto) (hn : n < 900) : ∃ new : List Int, new.length = n ∧ (∀ r ∈ new, 0 ≤ r ∧ r < 4096) ∧ F__law_draws [.int cell, .int (n : Int)] S = some (.val (.ref S.length) (S ++ [.lst (new.map D.int)])) := by
  obtain ⟨new, left', x4', x5', hl, hb, e⟩ := e_draw_loop (cell := cell) (count := .int (n : Int)) (S := S) n 0 cell none none [] (by rw [List.length_nil]; omega) (by omega) (by omega)
  refine ⟨new, hl, hb, ?_⟩
  unfold F__law_draws m__law_draws
  have er : mRng1 (mCons (mVar 1) mNil) [some (.int cell), some (.int (n : Int)), some (.ref S.length), some (.int cell), none, none] (S ++ [.lst []]) = some (.val (sqIt (rngD 0 n)) (S ++ [.lst []])) := by
    refine (mRng1_eq (S1 := S ++ [.lst []]) (n := (n : Int)) (by simp only [fnOf, sSeq, sSet, sAsg, sB, mB, mOp, mRet, mUn, mBi, mCons, mNil, mTup, mCall, tTp, tCons', tN, tNil', Option.bind_some, Option.map_some, List.map_cons, List.map_nil, List.length_cons, List.length_nil, List.replicate, List.cons_append, List.nil_append, sRet, sIf, mT, mTru, mIf, mAnd, mOr, mNotB, sNil, sEx, sPar, var0, varS, set0, setS, ix0, ix1, add_ii, sub_ii, lt_ii, le_ii, gt_ii, ge_ii, eq_ii, ne_ii, neg_i, gcd_ii, abs_i, int_i, int_b, tru_b, Nat.reduceAdd, Nat.reduceSub, Nat.reduceLeDiff, if_true]) ?_).trans ?_
    · unfold rngOk
      rw [Bool.and_eq_true]
      exact ⟨decide_eq_true (by omega), decide_eq_true (by omega)⟩
    · rfl
  have ef := for_items (t := tN 4) (b := L0__law_draws) er (by
    unfold rngD
    rw [List.length_map, List.length_range]
    exact lt_fuel (show n < 2 ^ 10 by omega) (by omega))
  refine fn_ret ?_
  refine seq_nx (set_eq (d := .ref S.length) (S1 := S ++ [.lst []]) (by simp only [fnOf, sSeq, sSet, sAsg, sB, mB, mOp, mRet, mUn, mBi, mCons, mNil, mTup, mCall, tTp, tCons', tN, tNil', Option.bind_some, Option.map_some, List.map_cons, List.map_nil, List.length_cons, List.length_nil, List.replicate, List.cons_append, List.nil_append, sRet, sIf, mT, mTru, mIf, mAnd, mOr, mNotB, sNil, sEx, sPar, var0, varS, set0, setS, ix0, ix1, add_ii, sub_ii, lt_ii, le_ii, gt_ii, ge_ii, eq_ii, ne_ii, neg_i, gcd_ii, abs_i, int_i, int_b, tru_b, Nat.reduceAdd, Nat.reduceSub, Nat.reduceLeDiff, if_true, mLst, mNew])) ?_
  refine seq_nx (set_eq (d := .int cell) (S1 := S ++ [.lst []]) (by simp only [fnOf, sSeq, sSet, sAsg, sB, mB, mOp, mRet, mUn, mBi, mCons, mNil, mTup, mCall, tTp, tCons', tN, tNil', Option.bind_some, Option.map_some, List.map_cons, List.map_nil, List.length_cons, List.length_nil, List.replicate, List.cons_append, List.nil_append, sRet, sIf, mT, mTru, mIf, mAnd, mOr, mNotB, sNil, sEx, sPar, var0, varS, set0, setS, ix0, ix1, add_ii, sub_ii, lt_ii, le_ii, gt_ii, ge_ii, eq_ii, ne_ii, neg_i, gcd_ii, abs_i, int_i, int_b, tru_b, Nat.reduceAdd, Nat.reduceSub, Nat.reduceLeDiff, if_true])) ?_
  refine seq_nx (ef.trans e) ?_
  exact ret_eq (by simp only [fnOf, sSeq, sSet, sAsg, sB, mB, mOp, mRet, mUn, mBi, mCons, mNil, mTup, mCall, tTp, tCons', tN, tNil', Option.bind_some, Option.map_some, List.map_cons, List.map_nil, List.length_cons, List.length_nil, List.replicate, List.cons_append, List.nil_append, sRet, sIf, mT, mTru, mIf, mAnd, mOr, mNotB, sNil, sEx, sPar, var0, varS, set0, setS, ix0, ix1, add_ii, sub_ii, lt_ii, le_ii, gt_ii, ge_ii, eq_ii, ne_ii, neg_i, gcd_ii, abs_i, int_i, int_b, tru_b, Nat.reduceAdd, Nat.reduceSub, Nat.reduceLeDiff, if_true, List.nil_append])
end Gn

namespace Gn
open PySem PySem.Spec PyProof.Rows L2 Rf
/-! ### the law's equality -/
def dOk : Nat → D → Prop
  | 0, _ => False
  | _ + 1, .int _ => True
  | k + 1, .tup xs => xs.length < 900 ∧ ∀ x ∈ xs, dOk k x
  | _ + 1, _ => False
theorem e_is_int (i : Int) (S : Sto) : F__law_is_int [.int i] S = some (.val (.bl true) S) := by
  unfold F__law_is_int m__law_is_int
  have a1 : gIsi [.int i, .ty "int"] S = some (.bl true, S) := isi rfl kit3
  have a2 : gIsi [.int i, .ty "bool"] S = some (.bl false, S) := isi rfl kit4
  simp only [fnOf, sSeq, sSet, sAsg, sB, mB, mOp, mRet, mUn, mBi, mCons, mNil, mTup, mCall, tTp, tCons', tN, tNil', Option.bind_some, Option.map_some, List.map_cons, List.map_nil, List.length_cons, List.length_nil, List.replicate, List.cons_append, List.nil_append, sRet, sIf, mT, mTru, mIf, mAnd, mOr, mNotB, sNil, sEx, sPar, var0, varS, set0, setS, ix0, ix1, add_ii, sub_ii, lt_ii, le_ii, gt_ii, ge_ii, eq_ii, ne_ii, neg_i, gcd_ii, abs_i, int_i, int_b, tru_b, Nat.reduceAdd, Nat.reduceSub, Nat.reduceLeDiff, if_true, mAndV, a1, a2, gNot, Bool.not_false]
theorem e_is_number (i : Int) (S : Sto) : F__law_is_number [.int i, .int i] S = some (.val (.bl true) S) := by
  unfold F__law_is_number m__law_is_number
  simp only [fnOf, sSeq, sSet, sAsg, sB, mB, mOp, mRet, mUn, mBi, mCons, mNil, mTup, mCall, tTp, tCons', tN, tNil', Option.bind_some, Option.map_some, List.map_cons, List.map_nil, List.length_cons, List.length_nil, List.replicate, List.cons_append, List.nil_append, sRet, sIf, mT, mTru, mIf, mAnd, mOr, mNotB, sNil, sEx, sPar, var0, varS, set0, setS, ix0, ix1, add_ii, sub_ii, lt_ii, le_ii, gt_ii, ge_ii, eq_ii, ne_ii, neg_i, gcd_ii, abs_i, int_i, int_b, tru_b, Nat.reduceAdd, Nat.reduceSub, Nat.reduceLeDiff, if_true, mAndV, e_is_int, decide_true]
theorem e_same : ∀ (k : Nat) (d : D), dOk k d → ∀ S : Sto, ∃ G, F__law_same k [d, d] S = some (.val (.bl true) (S ++ G))
  | 0, _, h, _ => absurd h (by unfold dOk; exact fun z => z)
  | k + 1, d, h, S => by
    unfold F__law_same m__law_same
    cases d with
    | int i =>
      have a1 : gIsi [.int i, .ty "tuple"] S = some (.bl false, S) := isi rfl kit1
      have a2 : gIsi [.int i, .ty "list"] S = some (.bl false, S) := isi rfl kit2
      have a3 : gIsi [.int i, .ty "int"] S = some (.bl true, S) := isi rfl kit3
      have b1 : gIs (.int i) .non S = some (.bl false, S) := rfl
      have b2 : gIs (.int i) (.bl true) S = some (.bl false, S) := rfl
      have b3 : gIs (.int i) (.bl false) S = some (.bl false, S) := rfl
      refine ⟨[], ?_⟩
      rw [List.append_nil]
      refine fn_ret ?_
      refine seq_nx (skip (v_T (v_bi (v_cons (v_var rfl) (v_cons v_ret v_nil)) a1))) ?_
      refine seq_nx (skip (v_T (v_bi (v_cons (v_var rfl) (v_cons v_ret v_nil)) a2))) ?_
      refine seq_nx (skip (v_T (v_op (v_var rfl) v_ret b1))) ?_
      refine seq_nx (skip (v_T (v_op (v_var rfl) v_ret b2))) ?_
      refine seq_nx (skip (v_T (v_op (v_var rfl) v_ret b3))) ?_
      refine seq_ret (if_t (v_T (v_bi (v_cons (v_var rfl) (v_cons v_ret v_nil)) a3)) (ret_eq (v_call (v_cons (v_var rfl) (v_cons (v_var rfl) v_nil)) (e_is_number i S))))
    | tup xs =>
      obtain ⟨hl, hx⟩ := h
      have a1 : gIsi [.tup xs, .ty "tuple"] S = some (.bl true, S) := isi rfl kit5
      obtain ⟨G, e⟩ := lc_none (vs := [2]) (t := tN 2) (it := mRng1 (mCons (mBi gLen (mCons (mVar 1) mNil)) mNil)) (c := mNotB (mTru (mCall (F__law_same k) (mCons (mOp gIx (mVar 0) (mVar 2)) (mCons (mOp gIx (mVar 1) (mVar 2)) mNil))))) (el := mVar 2)
        (ρ := [some (.tup xs), some (.tup xs), none]) (S := S) (S1 := S) (xs := rngD 0 xs.length)
        (mRng1_eq (n := (xs.length : Int)) (v_cons (v_bi (v_cons (v_var rfl) v_nil) len_tup) v_nil) (rngOk_nat (by omega))) (by rw [rngD_len]; exact lt_fuel (k := 10) (by omega) (by omega)) (fun x hxm S' => by
          obtain ⟨j, hj, rfl⟩ := rngD_mem hxm
          obtain ⟨G', e'⟩ := e_same k xs[j] (hx _ (List.getElem_mem hj)) S'
          refine ⟨_, G', rfl, ?_⟩
          have gx : gIx (.tup xs) (.int (j : Int)) S' = some (xs[j], S') := ixT (List.getElem?_eq_getElem hj)
          exact v_not (k := true) (v_tru (v_call (v_cons (v_op (v_var rfl) (v_var rfl) gx) (v_cons (v_op (v_var rfl) (v_var rfl) gx) v_nil)) e') rfl))
      refine ⟨.lst [] :: G, ?_⟩
      refine fn_ret ?_
      refine seq_ret (if_t (v_T (v_bi (v_cons (v_var rfl) (v_cons v_ret v_nil)) a1)) ?_)
      refine seq_nx (skip (v_or_f (v_not (k := true) (v_T (v_bi (v_cons (v_var rfl) (v_cons v_ret v_nil)) a1))) (v_T (v_op (v_bi (v_cons (v_var rfl) v_nil) len_tup) (v_bi (v_cons (v_var rfl) v_nil) len_tup) (by rw [ne_ii, decide_eq_true rfl]; rfl))))) ?_
      exact ret_eq (v_op (v_bi (v_cons e v_nil) (len_ref nth_last)) v_ret rfl)
    | _ => exact absurd h (by unfold dOk; exact fun z => z)
/-! ### the law's fractions -/
theorem dOk_nq (q : Rat) : dOk 3 (nq q) := by
  unfold nq
  refine ⟨by show 2 < 900; decide, fun x hx => ?_⟩
  rcases List.mem_cons.mp hx with rfl | hx
  · exact trivial
  · rcases List.mem_cons.mp hx with rfl | hx
    · exact trivial
    · cases hx
theorem e_same_q (q : Rat) (S : Sto) {k : Nat} (hk : 3 ≤ k := by omega) : True := trivial
theorem ix_n (q : Rat) (S : Sto) : gIx (nq q) (.int 0) S = some (.int q.num, S) := ix0
theorem ix_d (q : Rat) (S : Sto) : gIx (nq q) (.int 1) S = some (.int (q.den : Int), S) := ix1
theorem rat_parts (q : Rat) : Rat.divInt q.num q.den = q := Rat.num_divInt_den q
theorem e_law_add {n : Nat} {x y : Rat} (hx : sz n x) (hy : sz n y) (S : Sto) (h0 : 0 < n := by omega) (hn : n ≤ 4000 := by omega) : F__law_add [nq x, nq y] S = some (.val (nq (x + y)) S) := by
  have m1 := mulOk_sz hx.1 hy.2
  have m2 := mulOk_sz hy.1 hx.2
  have m3 := mulOk_sz hx.2 hy.2
  have dz : (x.den : Int) * (y.den : Int) ≠ 0 := Int.mul_ne_zero (den_ne x) (den_ne y)
  have f := e_frac (a := x.num * (y.den : Int) + y.num * (x.den : Int)) dz (hx.2.mul hy.2) S (by omega) (by omega)
  have e : Rat.divInt (x.num * (y.den : Int) + y.num * (x.den : Int)) ((x.den : Int) * (y.den : Int)) = x + y := by
    rw [← Rat.divInt_add_divInt x.num y.num (den_ne x) (den_ne y), rat_parts, rat_parts]
  rw [e] at f
  unfold F__law_add m__law_add
  exact fn_ret (ret_eq (v_call (v_cons (v_op (v_op (v_op (v_var rfl) v_ret (ix_n x S)) (v_op (v_var rfl) v_ret (ix_d y S)) (mul_ii m1)) (v_op (v_op (v_var rfl) v_ret (ix_n y S)) (v_op (v_var rfl) v_ret (ix_d x S)) (mul_ii m2)) add_ii) (v_cons (v_op (v_op (v_var rfl) v_ret (ix_d x S)) (v_op (v_var rfl) v_ret (ix_d y S)) (mul_ii m3)) v_nil)) f))
theorem e_law_mul {n : Nat} {x y : Rat} (hx : sz n x) (hy : sz n y) (S : Sto) (h0 : 0 < n := by omega) (hn : n ≤ 4000 := by omega) : F__law_mul [nq x, nq y] S = some (.val (nq (x * y)) S) := by
  have m1 := mulOk_sz hx.1 hy.1
  have m3 := mulOk_sz hx.2 hy.2
  have dz : (x.den : Int) * (y.den : Int) ≠ 0 := Int.mul_ne_zero (den_ne x) (den_ne y)
  have f := e_frac (a := x.num * y.num) dz (hx.2.mul hy.2) S (by omega) (by omega)
  have e : Rat.divInt (x.num * y.num) ((x.den : Int) * (y.den : Int)) = x * y := by
    rw [← Rat.divInt_mul_divInt, rat_parts, rat_parts]
  rw [e] at f
  unfold F__law_mul m__law_mul
  exact fn_ret (ret_eq (v_call (v_cons (v_op (v_op (v_var rfl) v_ret (ix_n x S)) (v_op (v_var rfl) v_ret (ix_n y S)) (mul_ii m1)) (v_cons (v_op (v_op (v_var rfl) v_ret (ix_d x S)) (v_op (v_var rfl) v_ret (ix_d y S)) (mul_ii m3)) v_nil)) f))
theorem e_law_neg (x : Rat) (S : Sto) : F__law_neg [nq x] S = some (.val (nq (-x)) S) := by
  unfold F__law_neg m__law_neg
  exact fn_ret (ret_eq (v_tup (v_cons (v_un (v_op (v_var rfl) v_ret (ix_n x S)) rfl) (v_cons (v_op (v_var rfl) v_ret (ix_d x S)) v_nil)) (by show 2 ≤ 1000; decide)))
theorem e_law_sub {n : Nat} {x y : Rat} (hx : sz n x) (hy : sz n y) (S : Sto) (h0 : 0 < n := by omega) (hn : n ≤ 4000 := by omega) : F__law_sub [nq x, nq y] S = some (.val (nq (x - y)) S) := by
  unfold F__law_sub m__law_sub
  have e := e_law_add hx (sz_neg hy) S
  rw [← Rat.sub_eq_add_neg] at e
  exact fn_ret (ret_eq (v_call (v_cons (v_var rfl) (v_cons (v_call (v_cons (v_var rfl) v_nil) (e_law_neg y S)) v_nil)) e))
end Gn

namespace Gn
open PySem PySem.Spec PyProof.Rows L2 Rf
/-- an interval -/
def ni (l h : Rat) : D := .tup [nq l, nq h]
theorem ix_l (l h : Rat) (S : Sto) : gIx (ni l h) (.int 0) S = some (nq l, S) := ix0
theorem ix_h (l h : Rat) (S : Sto) : gIx (ni l h) (.int 1) S = some (nq h, S) := ix1
theorem two_le {a b : D} : [a, b].length ≤ 1000 := by show 2 ≤ 1000; decide
theorem v_pair {ρ : Rf.Env} {S S1 S2 : Sto} {ma mb : M D} {a b : D} (ha : ma ρ S = some (.val a S1)) (hb : mb ρ S1 = some (.val b S2)) : mTup (mCons ma (mCons mb mNil)) ρ S = some (.val (.tup [a, b]) S2) := v_tup (v_cons ha (v_cons hb v_nil)) two_le
theorem v_ife_t {ρ : Rf.Env} {S S1 : Sto} {mc : M Bool} {ma mb : M D} {r : Option (R D)} (h : mc ρ S = some (.val true S1)) (k : ma ρ S1 = r) : mIf mc ma mb ρ S = r := by
  unfold mIf mB
  simp only [h, k]
theorem v_ife_f {ρ : Rf.Env} {S S1 : Sto} {mc : M Bool} {ma mb : M D} {r : Option (R D)} (h : mc ρ S = some (.val false S1)) (k : mb ρ S1 = r) : mIf mc ma mb ρ S = r := by
  unfold mIf mB
  simp only [h, k]
theorem sz_ite {n : Nat} {x y : Rat} {p : Prop} [Decidable p] (hx : sz n x) (hy : sz n y) : sz n (if p then x else y) := by
  by_cases c : p
  · rw [if_pos c]; exact hx
  · rw [if_neg c]; exact hy
end Gn

namespace Gn
open PySem PySem.Spec PyProof.Rows L2 Rf
/-! ### powers -/
theorem _root_.Rf.szI.pow {n : Nat} {a : Int} (h : szI n a) : ∀ e : Nat, szI (n * e + 1) (a ^ e)
  | 0 => by show (a ^ 0).natAbs < 2 ^ (n * 0 + 1); rw [Int.pow_zero]; exact Nat.one_lt_two_pow (by omega)
  | e + 1 => by
    have := (Rf.szI.pow h e).mul h
    rw [Int.pow_succ]
    exact this.mono (by rw [Nat.mul_succ]; omega)
theorem and_one (x : Nat) : Builtin.bitAnd (x : Int) 1 = ((x % 2 : Nat) : Int) := by
  unfold Builtin.bitAnd
  rw [decide_eq_true (by omega : (0 : Int) ≤ (x : Int))]
  show (((x : Int).toNat &&& 1 : Nat) : Int) = _
  rw [Int.toNat_natCast, Nat.and_one_is_mod]
theorem and1_ii {x : Nat} {S : Sto} : gAnd (.int (x : Int)) (.int 1) S = some (.int ((x % 2 : Nat) : Int), S) := by
  unfold gAnd gI
  dsimp only
  rw [if_pos rfl, and_one]
theorem shr_ii {x m : Nat} {S : Sto} : gShr (.int (x : Int)) (.int (m : Int)) S = some (.int ((x / 2 ^ m : Nat) : Int), S) := by
  unfold gShr gI
  dsimp only
  rw [if_pos (decide_eq_true (by omega)), Int.toNat_natCast]
  congr 1
theorem tru_i {i : Int} {S : Sto} : truD (.int i) S = some (i != 0) := rfl
theorem revD_succ {m : Nat} : revD 0 (m + 1) = .int (m : Int) :: revD 0 m := by
  unfold revD
  rw [List.range_succ_eq_map, List.map_cons, List.map_map]
  congr 1
  · congr 1
    omega
  · apply List.map_congr_left
    intro a _
    show D.int (0 + ((m + 1 : Nat) : Int) - 1 - ((a + 1 : Nat) : Int)) = D.int (0 + (m : Int) - 1 - (a : Int))
    congr 1
    omega
theorem wp_loop {a : Int} {n k : Nat} (ha : szI n a) (h0 : 0 < n) (hn : n * k + 1 ≤ 400000) : ∀ (m : Nat) (x : Option D) (S : Sto), ∃ y,
    forI (tN 3) L0_whole_power (revD 0 m) [some (.int a), some (.int (k : Int)), some (.int (a ^ (k / 2 ^ m))), x] S = some (.nx [some (.int a), some (.int (k : Int)), some (.int (a ^ k)), y] S)
  | 0, x, S => ⟨x, by rw [Nat.pow_zero, Nat.div_one]; rfl⟩
  | m + 1, x, S => by
    obtain ⟨y, e⟩ := wp_loop ha h0 hn m (some (.int (m : Int))) S
    refine ⟨y, ?_⟩
    rw [revD_succ]
    refine (forI_nx rfl ?_).trans e
    have hq : k / 2 ^ (m + 1) = k / 2 ^ m / 2 := by rw [Nat.pow_succ, Nat.div_div_eq_div_mul]
    have hle : k / 2 ^ m ≤ k := Nat.div_le_self _ _
    rw [hq]
    have sq : ∀ S' : Sto, gAnd (.int ((k / 2 ^ m : Nat) : Int)) (.int 1) S' = _ := fun S' => and1_ii
    have sh : ∀ S' : Sto, gShr (.int (k : Int)) (.int (m : Int)) S' = _ := fun S' => shr_ii
    generalize k / 2 ^ m = q at *
    have s1 := ha.pow (q / 2)
    have b1 : n * (q / 2) ≤ n * k := Nat.mul_le_mul_left n (by omega)
    have b2 : n * q ≤ n * k := Nat.mul_le_mul_left n (by omega)
    have m1 : mulOk (a ^ (q / 2)) (a ^ (q / 2)) = true := mulOk_sz s1 s1
    have c : ∀ z : D, mTru (mOp gAnd (mOp gShr (mVar 1) (mVar 3)) (mRet (.int 1))) [some (.int a), some (.int (k : Int)), some z, some (.int (m : Int))] S = some (.val (((q % 2 : Nat) : Int) != 0) S) := fun z =>
      v_tru (v_op (v_op (v_var rfl) (v_var rfl) (sh S)) v_ret (sq S)) tru_i
    unfold L0_whole_power
    refine seq_nx (set_eq (v_op (v_var rfl) (v_var rfl) (mul_ii m1))) ?_
    rw [← Int.pow_add]
    have s2 := ha.pow (q / 2 + q / 2)
    have b3 : n * (q / 2 + q / 2) ≤ n * k := Nat.mul_le_mul_left n (by omega)
    have b4 : n ≤ n * k ∨ q = 0 := by
      by_cases z : q = 0
      · exact .inr z
      · exact .inl (Nat.le_mul_of_pos_right n (by omega))
    by_cases o : q % 2 = 0
    · have := c (.int (a ^ (q / 2 + q / 2)))
      rw [o] at this
      rw [show q / 2 + q / 2 = q by omega] at *
      exact skip this
    · have := c (.int (a ^ (q / 2 + q / 2)))
      rw [show q % 2 = 1 by omega] at this
      refine if_t this ?_
      have m2 : mulOk (a ^ (q / 2 + q / 2)) a = true := mulOk_sz s2 ha
      refine (set_eq (v_op (v_var rfl) (v_var rfl) (mul_ii m2))).trans ?_
      rw [← Int.pow_succ, show (q / 2 + q / 2).succ = q by omega]
      rfl
theorem bits_i {i : Int} {S : Sto} : gBits (.int i) S = some (.int ((Builtin.Int.intBits i : Nat) : Int), S) := rfl
theorem bits_out (k : Nat) : k / 2 ^ Builtin.Int.intBits (k : Int) = 0 := by
  unfold Builtin.Int.intBits
  by_cases z : k = 0
  · subst z; rfl
  · have : ((k : Int) == 0) = false := by
      rw [beq_eq_false_iff_ne]
      omega
    rw [this]
    simp only [Bool.false_eq_true, if_false, Int.natAbs_natCast]
    exact Nat.div_eq_of_lt Nat.lt_log2_self
theorem bits_le (k : Nat) : Builtin.Int.intBits (k : Int) ≤ k + 1 := by
  unfold Builtin.Int.intBits
  split
  · omega
  · have : ((k : Int).natAbs).log2 ≤ k := by
      rw [Int.natAbs_natCast]
      exact Nat.log2_le_self k
    omega
theorem mRev1_eq {me : M D} {ρ : Rf.Env} {S S1 : Sto} {n : Nat} (h : me ρ S = some (.val (.int (n : Int)) S1)) (hn : rngOk (n : Int) = true) : mRev1 me ρ S = some (.val (sqIt (revD 0 n)) S1) := by
  unfold mRev1 mB
  rw [h]
  dsimp only
  rw [if_pos hn, Int.toNat_natCast]
theorem lt60 {m k : Nat} (h : m ≤ k + 1) (h2 : k ≤ 400000) : rngOk (m : Int) = true := rngOk_nat (by omega)
theorem ltfu {m k : Nat} (h : m ≤ k + 1) (h2 : k ≤ 400000) : m < fuel := lt_fuel (k := 60) (by omega) (by omega)
theorem rev_bits {a : Int} {k : Nat} {S : Sto} (h : k ≤ 400000) : mRev1 (mUn gBits (mVar 1)) [some (.int a), some (.int (k : Int)), some (.int 1), none] S = some (.val (sqIt (revD 0 (Builtin.Int.intBits (k : Int)))) S) :=
  mRev1_eq (v_un (v_var rfl) bits_i) (lt60 (bits_le k) h)
theorem revD_len {lo : Int} {n : Nat} : (revD lo n).length = n := by
  unfold revD
  rw [List.length_map, List.length_range]
theorem e_whole_power {a : Int} {n k : Nat} (ha : szI n a) (S : Sto) (h0 : 0 < n) (hn : n * k + 1 ≤ 400000) : F_whole_power [.int a, .int (k : Int)] S = some (.val (.int (a ^ k)) S) := by
  obtain ⟨y, e⟩ := wp_loop ha h0 hn (Builtin.Int.intBits (k : Int)) none S
  rw [bits_out, Int.pow_zero] at e
  have kk : k ≤ n * k := Nat.le_mul_of_pos_left k h0
  have bk : k ≤ 400000 := by omega
  have er := rev_bits (a := a) (S := S) bk
  have bl := ltfu (bits_le k) bk
  generalize Builtin.Int.intBits (k : Int) = m at *
  unfold F_whole_power m_whole_power
  refine fn_ret ?_
  refine seq_nx (set_eq v_ret) ?_
  exact seq_nx ((for_items er (by rw [revD_len]; exact bl)).trans e) (ret_eq (v_var rfl))
theorem nq_pow (x : Rat) (k : Nat) : D.tup [.int (x.num ^ k), .int ((x.den : Int) ^ k)] = nq (x ^ k) := by
  unfold nq
  rw [Rat.num_pow, Rat.den_pow, Int.natCast_pow]
theorem _root_.Rf.sz.pow {n : Nat} {x : Rat} (h : sz n x) (k : Nat) : sz (n * k + 1) (x ^ k) := by
  refine ⟨?_, ?_⟩
  · rw [Rat.num_pow]; exact h.1.pow k
  · rw [Rat.den_pow, Int.natCast_pow]; exact h.2.pow k
theorem e_power {x : Rat} {n k : Nat} (hx : sz n x) (S : Sto) (h0 : 0 < n := by omega) (hn : n * k + 1 ≤ 400000 := by omega) : F_power [nq x, .int (k : Int)] S = some (.val (nq (x ^ k)) S) := by
  unfold F_power m_power
  refine fn_ret (ret_eq ?_)
  rw [← nq_pow]
  exact v_pair (v_call (v_cons (v_op (v_var rfl) v_ret (ix_n x S)) (v_cons (v_var rfl) v_nil)) (e_whole_power hx.1 S h0 hn)) (v_call (v_cons (v_op (v_var rfl) v_ret (ix_d x S)) (v_cons (v_var rfl) v_nil)) (e_whole_power hx.2 S h0 hn))
theorem lp_loop {x : Rat} {n k : Nat} {c : D} (hx : sz n x) (h0 : 0 < n) (hk : n * k + 1 ≤ 4000) : ∀ (m lo : Nat) (y : Option D) (S : Sto), lo + m = k → ∃ z,
    forI (tN 3) L0__law_power (rngD (lo : Int) m) [some (nq x), some c, some (nq (x ^ lo)), y] S = some (.nx [some (nq x), some c, some (nq (x ^ k)), z] S)
  | 0, lo, y, S, h => ⟨y, by rw [show lo = k by omega]; rfl⟩
  | m + 1, lo, y, S, h => by
    obtain ⟨z, e⟩ := lp_loop (c := c) hx h0 hk m (lo + 1) (some (.int (lo : Int))) S (by omega)
    refine ⟨z, ?_⟩
    rw [rngD_succ]
    refine (forI_nx rfl ?_).trans e
    unfold L0__law_power
    have b1 : n * lo ≤ n * k := Nat.mul_le_mul_left n (by omega)
    have b2 : n ≤ n * k := Nat.le_mul_of_pos_right n (by omega)
    have s1 := (hx.pow lo).mono (m := n * k + 1) (by omega)
    have s2 := hx.mono (m := n * k + 1) (by omega)
    refine (set_eq (v_call (v_cons (v_var rfl) (v_cons (v_var rfl) v_nil)) (e_law_mul s1 s2 S))).trans ?_
    rw [← Rat.pow_succ]
    rfl
theorem one_nq : D.tup [.int 1, .int 1] = nq 1 := rfl
theorem zero_nq : D.tup [.int 0, .int 1] = nq 0 := rfl
theorem e_law_power {x : Rat} {n k : Nat} (hx : sz n x) (S : Sto) (h0 : 0 < n := by omega) (hk : n * k + 1 ≤ 4000 := by omega) : F__law_power [nq x, .int (k : Int)] S = some (.val (nq (x ^ k)) S) := by
  obtain ⟨z, e⟩ := lp_loop (c := .int (k : Int)) hx h0 hk k 0 none S (by omega)
  have kk : k ≤ n * k := Nat.le_mul_of_pos_left k h0
  unfold F__law_power m__law_power
  refine fn_ret ?_
  refine seq_nx (set_eq (v_pair v_ret v_ret)) ?_
  rw [one_nq, show (1 : Rat) = x ^ 0 from (Rat.pow_zero x).symm]
  refine seq_nx ((for_items (xs := rngD 0 k) (S1 := S) (mRng1_eq (n := (k : Int)) (v_cons (v_var rfl) v_nil) (rngOk_nat (by omega))) ?_).trans e) (ret_eq (v_var rfl))
  rw [rngD_len]
  exact lt_fuel (k := 20) (by omega) (by omega)
/-! ### order -/
theorem pow_mono {a b : Rat} (h : 0 ≤ a) (h2 : a ≤ b) : ∀ k : Nat, a ^ k ≤ b ^ k
  | 0 => by rw [Rat.pow_zero, Rat.pow_zero]; grind
  | k + 1 => by
    have i := pow_mono h h2 k
    have p : 0 ≤ b ^ k := Rat.pow_nonneg (by grind)
    rw [Rat.pow_succ, Rat.pow_succ]
    have e1 := Rat.mul_le_mul_of_nonneg_right i h
    have e2 := Rat.mul_le_mul_of_nonneg_left h2 p
    exact Rat.le_trans e1 e2
theorem pow_sq (a : Rat) : ∀ j : Nat, a ^ (2 * j) = (a * a) ^ j
  | 0 => (Rat.pow_zero a).trans (Rat.pow_zero _).symm
  | j + 1 => by
    rw [show 2 * (j + 1) = 2 * j + 1 + 1 by omega, Rat.pow_succ, Rat.pow_succ, pow_sq a j, Rat.pow_succ, Rat.mul_assoc]
theorem sq_mono {a b : Rat} (h : a ≤ b) (hb : b ≤ 0) : b * b ≤ a * a := by
  have e1 := Rat.mul_le_mul_of_nonneg_left (a := -b) (b := -a) (c := -b) (by grind) (by grind)
  have e2 := Rat.mul_le_mul_of_nonneg_right (a := -b) (b := -a) (c := -a) (by grind) (by grind)
  grind
theorem sq_pos (a : Rat) : 0 ≤ a * a := by
  by_cases h : 0 ≤ a
  · exact Rat.mul_nonneg h h
  · have := Rat.mul_nonneg (a := -a) (b := -a) (by grind) (by grind)
    grind
theorem pow_even {a b : Rat} {k : Nat} (h : a ≤ b) (hb : b ≤ 0) (hk : k % 2 = 0) : b ^ k ≤ a ^ k := by
  rw [show k = 2 * (k / 2) by omega, pow_sq, pow_sq]
  exact pow_mono (sq_pos b) (sq_mono h hb) _
theorem pow_odd {a b : Rat} {k : Nat} (h : a ≤ b) (hk : k % 2 = 1) : a ^ k ≤ b ^ k := by
  by_cases ha : 0 ≤ a
  · exact pow_mono ha h k
  · rw [show k = 2 * (k / 2) + 1 by omega, Rat.pow_succ, Rat.pow_succ, pow_sq, pow_sq]
    generalize k / 2 = j
    have pa : 0 ≤ (a * a) ^ j := Rat.pow_nonneg (sq_pos a)
    have pb : 0 ≤ (b * b) ^ j := Rat.pow_nonneg (sq_pos b)
    by_cases hb : 0 ≤ b
    · have e1 := Rat.mul_nonneg pb hb
      have e2 := Rat.mul_nonneg pa (b := -a) (by grind)
      grind
    · have e0 := pow_mono (sq_pos b) (sq_mono h (by grind)) j
      have e1 := Rat.mul_le_mul_of_nonneg_left h pa
      have e2 := Rat.mul_le_mul_of_nonneg_right (c := -b) e0 (by grind)
      grind
/-- the power of an interval -/
def pw (a b : Rat) (k : Nat) : Rat × Rat :=
  if 0 < k ∧ k % 2 = 0 ∧ a < 0 ∧ 0 < b then (0, if a ^ k < b ^ k then b ^ k else a ^ k) else (if b ^ k < a ^ k then b ^ k else a ^ k, if a ^ k < b ^ k then b ^ k else a ^ k)
theorem num_pos {q : Rat} : 0 < q.num ↔ 0 < q := by
  rw [Rat.lt_iff]
  simp
theorem num_neg {q : Rat} : q.num < 0 ↔ q < 0 := by
  rw [Rat.lt_iff]
  simp
end Gn

namespace Gn
open PySem PySem.Spec PyProof.Rows L2 Rf
/-! ### comparisons of fractions -/
section
variable {ρ : Rf.Env} {S : Sto} {ma mb : M D} {n : Nat} {x y : Rat}
theorem c_le (hx : sz n x) (hy : sz n y) (ha : ma ρ S = some (.val (nq x) S)) (hb : mb ρ S = some (.val (nq y) S)) (h0 : 0 < n := by omega) (hn : n ≤ 4000 := by omega) : mOp gLe (mCall F_compare (mCons ma (mCons mb mNil))) (mRet (.int 0)) ρ S = some (.val (.bl (!decide (y < x))) S) := by
  refine v_op (v_call (v_cons ha (v_cons hb v_nil)) (e_compare hx hy S)) v_ret ?_
  by_cases c : x < y
  · have c1 : ¬ y < x := fun z => by grind
    rw [if_pos c, decide_eq_false c1]
    rfl
  · rw [if_neg c]
    by_cases c1 : y < x
    · rw [if_pos c1, decide_eq_true c1]
      rfl
    · rw [if_neg c1, decide_eq_false c1]
      rfl
theorem c_lt (hx : sz n x) (hy : sz n y) (ha : ma ρ S = some (.val (nq x) S)) (hb : mb ρ S = some (.val (nq y) S)) (h0 : 0 < n := by omega) (hn : n ≤ 4000 := by omega) : mOp gLt (mCall F_compare (mCons ma (mCons mb mNil))) (mRet (.int 0)) ρ S = some (.val (.bl (decide (x < y))) S) := by
  refine v_op (v_call (v_cons ha (v_cons hb v_nil)) (e_compare hx hy S)) v_ret ?_
  by_cases c : x < y
  · rw [if_pos c, decide_eq_true c]
    rfl
  · rw [if_neg c, decide_eq_false c]
    by_cases c1 : y < x
    · rw [if_pos c1]
      rfl
    · rw [if_neg c1]
      rfl
theorem v_andV {p q : Bool} (ha : ma ρ S = some (.val (.bl p) S)) (hb : mb ρ S = some (.val (.bl q) S)) : mAndV ma mb ρ S = some (.val (.bl (p && q)) S) := by
  unfold mAndV mB
  cases p with
  | true => simp only [ha, hb, Bool.true_and]
  | false => simp only [ha, Bool.false_and]; rfl
theorem v_notV {p : Bool} (ha : ma ρ S = some (.val (.bl p) S)) : mUn gNot ma ρ S = some (.val (.bl (!p)) S) := v_un ha rfl
end
theorem pass_num {ρ : Rf.Env} {S : Sto} {e1 e2 : M D} {p : Int} {x : MS} (h1 : e1 ρ S = some (.val (.int p) S)) (h2 : e2 ρ S = some (.val (.int p) S)) : sIf (mNotB (mTru (mCall F__law_is_number (mCons e1 (mCons e2 mNil))))) x sNil ρ S = some (.nx ρ S) :=
  skip (v_not (k := true) (v_tru (v_call (v_cons h1 (v_cons h2 v_nil)) (e_is_number p S)) rfl))
/-- one comparison of several -/
theorem same_or {ρ : Rf.Env} {S S1 S2 : Sto} {e1 e2 : M D} {d : D} (hd : ∃ G, F__law_same 40 [d, d] S2 = some (.val (.bl true) (S2 ++ G))) (h1 : e1 ρ S = some (.val d S1)) (h2 : e2 ρ S1 = some (.val d S2)) : ∃ G, mNotB (mTru (mCall (F__law_same 40) (mCons e1 (mCons e2 mNil)))) ρ S = some (.val false (S2 ++ G)) := by
  obtain ⟨G, e⟩ := hd
  exact ⟨G, v_not (k := true) (v_tru (v_call (v_cons h1 (v_cons h2 v_nil)) e) rfl)⟩
theorem dk_nq {k : Nat} (q : Rat) : dOk (k + 2) (nq q) := by
  unfold nq
  refine ⟨by show 2 < 900; decide, fun x hx => ?_⟩
  rcases List.mem_cons.mp hx with rfl | hx
  · exact trivial
  · rcases List.mem_cons.mp hx with rfl | hx
    · exact trivial
    · cases hx
theorem dk_ni {k : Nat} (l h : Rat) : dOk (k + 3) (ni l h) := by
  unfold ni
  refine ⟨by show 2 < 900; decide, fun x hx => ?_⟩
  rcases List.mem_cons.mp hx with rfl | hx
  · exact dk_nq l
  · rcases List.mem_cons.mp hx with rfl | hx
    · exact dk_nq h
    · cases hx
theorem kitN1 : kitB "NoneType" "tuple" = some false := by decide +kernel
theorem kitN2 : kitB "NoneType" "list" = some false := by decide +kernel
theorem e_same_non (S : Sto) : ∃ G, F__law_same 40 [.non, .non] S = some (.val (.bl true) (S ++ G)) := by
  refine ⟨[], ?_⟩
  rw [List.append_nil]
  show fnOf 3 (m__law_same (F__law_same 39)) [.non, .non] S = _
  unfold m__law_same
  refine fn_ret ?_
  refine seq_nx (skip (v_T (v_bi (v_cons (v_var rfl) (v_cons v_ret v_nil)) (isi rfl kitN1)))) ?_
  refine seq_nx (skip (v_T (v_bi (v_cons (v_var rfl) (v_cons v_ret v_nil)) (isi rfl kitN2)))) ?_
  exact seq_ret (if_t (v_T (v_op (v_var rfl) v_ret rfl)) (ret_eq (v_op (v_var rfl) v_ret rfl)))
/-! ### the program -/
section
variable {n : Nat} {a b c d x : Rat}
def half : Rat := Rat.divInt 1 2
theorem half_nq : D.tup [.int 1, .int 2] = nq half := rfl
theorem sz_half {n : Nat} (h : 2 ≤ n) : sz n half := by
  have : sz 2 half := ⟨by show half.num.natAbs < 2 ^ 2; decide, by show ((half.den : Int)).natAbs < 2 ^ 2; decide⟩
  exact this.mono h
end
/-- one of three -/
theorem pick3 {id : Nat} {A B C : D} {S : Sto} (h : S[id]? = some (.lst [A, B, C])) (r : Int) : ∃ d, (d = A ∨ d = B ∨ d = C) ∧ gIx (.ref id) (.int (r.fmod 3)) S = some (d, S) := by
  have b := fm (x := r) (m := 3) (by decide)
  generalize r.fmod 3 = j at b
  have : j = 0 ∨ j = 1 ∨ j = 2 := by omega
  rcases this with rfl | rfl | rfl
  · exact ⟨A, .inl rfl, ixR (k := 0) h rfl⟩
  · exact ⟨B, .inr (.inl rfl), ixR (k := 1) h rfl⟩
  · exact ⟨C, .inr (.inr rfl), ixR (k := 2) h rfl⟩
theorem lst3 {ρ : Rf.Env} {S S1 S2 S3 : Sto} {ma mb mc : M D} {A B C : D} (ha : ma ρ S = some (.val A S1)) (hb : mb ρ S1 = some (.val B S2)) (hc : mc ρ S2 = some (.val C S3)) : mLst (mCons ma (mCons mb (mCons mc mNil))) ρ S = some (.val (.ref S3.length) (S3 ++ [.lst [A, B, C]])) := v_lst (v_cons ha (v_cons hb (v_cons hc v_nil))) (by show 3 ≤ 1000; decide)
end Gn

namespace Gn
open PySem PySem.Spec PyProof.Rows L2 Rf
theorem e_ten {ρ : Rf.Env} {S : Sto} {me : M D} {t : Int} (h : me ρ S = some (.val (.int t) S)) : ∃ m : Nat, m < 2 ^ 140 ∧ mBi gIntT (mCons (mOp gAdd (mRet (.str (PySem.Str.ofString "1"))) (mOp gMulT (mRet (.str (PySem.Str.ofString "0"))) (mOp gMod me (mRet (.int 40))))) mNil) ρ S = some (.val (.int (m : Int)) S) := by
  have b := fm (x := t) (m := 40) (by decide)
  have mt := mod_ii (i := t) (j := 40) (S := S) (by decide)
  obtain ⟨n, hn⟩ : ∃ n : Nat, t.fmod 40 = (n : Int) := ⟨(t.fmod 40).toNat, by omega⟩
  rw [hn] at mt b
  obtain ⟨m, e1, e2, e3⟩ := ten_text ⟨n, by omega⟩
  dsimp only at e1 e3
  refine ⟨m, e2, ?_⟩
  have len0 : (PySem.Str.ofString "0").length = 1 := by decide +kernel
  have g1 : gMulT (.str (PySem.Str.ofString "0")) (.int (n : Int)) S = some (.str (Txt.mul (PySem.Str.ofString "0") (n : Int)), S) := by
    have x1 : gMul (.str (PySem.Str.ofString "0")) (.int (n : Int)) S = none := rfl
    have x2 : gRep (.str (PySem.Str.ofString "0")) (.int (n : Int)) S = some (.str (Txt.mul (PySem.Str.ofString "0") (n : Int)), S) := by
      unfold gRep
      dsimp only
      rw [if_pos]
      rw [Bool.and_eq_true]
      exact ⟨decide_eq_true len0, decide_eq_true (by omega)⟩
    unfold gMulT orG
    rw [x1]
    exact x2
  have g2 : gAdd (.str (PySem.Str.ofString "1")) (.str (Txt.mul (PySem.Str.ofString "0") (n : Int))) S = some (.str (PySem.Str.ofString "1" ++ Txt.mul (PySem.Str.ofString "0") (n : Int)), S) := by
    have le : (PySem.Str.ofString "1").length + (Txt.mul (PySem.Str.ofString "0") (n : Int)).length ≤ 1000000 := by
      have l1 : (PySem.Str.ofString "1").length = 1 := by decide +kernel
      have l2 := PyProof.Rows.len_mul_k1 (n := (n : Int)) len0
      split at l2 <;> omega
    generalize Txt.mul (PySem.Str.ofString "0") (n : Int) = w at *
    have x1 : (gI (fun _ _ => true) fun i j => .int (i + j)) (.str (PySem.Str.ofString "1")) (.str w) S = none := rfl
    have x2 : (gS (fun i j => decide (i.length + j.length ≤ 1000000)) fun i j => .str (i ++ j)) (.str (PySem.Str.ofString "1")) (.str w) S = some (.str (PySem.Str.ofString "1" ++ w), S) := by
      unfold gS
      dsimp only
      rw [if_pos (decide_eq_true le)]
    unfold gAdd orG
    rw [x1]
    dsimp only
    rw [x2]
  refine v_bi (v_cons (v_op v_ret (v_op v_ret (v_op h v_ret mt) g1) g2) v_nil) ?_
  generalize PySem.Str.ofString "1" ++ Txt.mul (PySem.Str.ofString "0") (n : Int) = w at *
  have x1 : gInt [.str w] S = none := rfl
  unfold gIntT
  rw [x1]
  dsimp only
  unfold gIntS
  dsimp only
  rw [if_pos e3, e1]
  rfl
theorem e_any_number (r t : Int) (S : Sto) : ∃ q : Rat, sz 160 q ∧ F__law_any_number [.int r, .int t] S = some (.val (nq q) S) := by
  obtain ⟨m, hm, em⟩ := e_ten (ρ := [some (.int r), some (.int t), none]) (S := S) (me := mVar 1) (t := t) (v_var rfl)
  have b1 := fm (x := r) (m := 2001) (by decide)
  have b2 := fm (x := t) (m := 7) (by decide)
  have b3 := fm (x := r.fdiv 16) (m := 9) (by decide)
  have b4 := fm (x := t.fdiv 40) (m := 2) (by decide)
  have s1 : szI 10 (r.fmod 2001 - 1000) := by unfold szI; omega
  have sm : szI 140 (m : Int) := by unfold szI; rw [Int.natAbs_natCast]; exact hm
  have s2 : szI 3 (t.fmod 7) := by unfold szI; omega
  have s3 : szI 4 ((r.fdiv 16).fmod 9) := by unfold szI; omega
  have s4 : szI 1 ((t.fdiv 40).fmod 2) := by unfold szI; omega
  have o1 : szI 1 1 := by unfold szI; decide
  have m1 : mulOk (r.fmod 2001 - 1000) (m : Int) = true := mulOk_sz s1 sm
  have m2 : mulOk (m : Int) ((t.fdiv 40).fmod 2) = true := mulOk_sz sm s4
  have w1 := o1.add (sm.mul s4)
  have m3 : mulOk ((r.fdiv 16).fmod 9) (1 + (m : Int) * (t.fdiv 40).fmod 2) = true := mulOk_sz s3 w1
  have w2 := (o1.add (s3.mul w1)).mono (m := 160) (by omega)
  have w3 := ((s1.mul sm).add s2).mono (m := 160) (by omega)
  have pos : 0 ≤ (r.fdiv 16).fmod 9 * (1 + (m : Int) * (t.fdiv 40).fmod 2) := Int.mul_nonneg b3.1 (by have := Int.mul_nonneg (a := (m : Int)) (by omega) b4.1; omega)
  have z : 1 + (r.fdiv 16).fmod 9 * (1 + (m : Int) * (t.fdiv 40).fmod 2) ≠ 0 := by omega
  refine ⟨_, sz_frac z w3 w2, ?_⟩
  unfold F__law_any_number m__law_any_number
  refine fn_ret ?_
  refine seq_nx (set_eq em) ?_
  exact ret_eq (v_call (v_cons (v_op (v_op (v_op (v_op (v_var rfl) v_ret (mod_ii (by decide))) v_ret sub_ii) (v_var rfl) (mul_ii m1)) (v_op (v_var rfl) v_ret (mod_ii (by decide))) add_ii)
    (v_cons (v_op v_ret (v_op (v_op (v_op (v_var rfl) v_ret (div_ii (divOk_lit (by decide) (by decide)))) v_ret (mod_ii (by decide))) (v_op v_ret (v_op (v_var rfl) (v_op (v_op (v_var rfl) v_ret (div_ii (divOk_lit (by decide) (by decide)))) v_ret (mod_ii (by decide))) (mul_ii m2)) add_ii) (mul_ii m3)) add_ii) v_nil)) (e_frac z w2 S))

/-! ### lists compared -/
theorem loopC_none' {t : Tgt} {c : M Bool} {el : M D} {ρ0 : Rf.Env} {n0 : Nat} {S0 : Sto} {xs : List D} (h : ∀ x ∈ xs, ∀ G0, ∃ ρ1 G, t x ρ0 (S0 ++ G0) = some ρ1 ∧ c ρ1 (S0 ++ G0) = some (.val false (S0 ++ G0 ++ G))) : ∀ (n i : Nat) (G0 : Sto), xs.length - i < n → ∃ G, loopC t c el (sqIt xs) ρ0 n0 n i (S0 ++ G0) = some (S0 ++ (G0 ++ G))
  | 0, i, G0, hn => absurd hn (by omega)
  | n + 1, i, G0, hn => by
    rw [loopC]
    by_cases k : i < xs.length
    · have e1 : sqIt xs i (S0 ++ G0) = some (some xs[i]) := by
        unfold sqIt
        rw [List.getElem?_eq_getElem k]
      obtain ⟨ρ1, G, h1, h2⟩ := h xs[i] (List.getElem_mem k) G0
      rw [List.append_assoc] at h2
      obtain ⟨G', ih⟩ := loopC_none' (el := el) (n0 := n0) h n (i + 1) (G0 ++ G) (by omega)
      exact ⟨G ++ G', by simp only [e1, h1, h2, ih, List.append_assoc]⟩
    · have e1 : sqIt xs i (S0 ++ G0) = some none := by
        unfold sqIt
        rw [List.getElem?_eq_none (by omega)]
      exact ⟨[], by simp only [e1, List.append_nil]⟩
theorem lc_none' {vs : List Nat} {t : Tgt} {it : M Sq} {c : M Bool} {el : M D} {ρ : Rf.Env} {S S1 : Sto} {xs : List D} (hi : it ρ S = some (.val (sqIt xs) S1)) (hl : xs.length < fuel) (h : ∀ x ∈ xs, ∀ G0, ∃ ρ1 G, t x (wipeE ρ vs) (S1 ++ G0) = some ρ1 ∧ c ρ1 (S1 ++ G0) = some (.val false (S1 ++ G0 ++ G))) :
    ∃ G, mLc vs t it c el ρ S = some (.val (.ref S1.length) (S1 ++ (.lst [] :: G))) := by
  obtain ⟨G, e⟩ := loopC_none' (el := el) (n0 := S1.length) h fuel 0 [.lst []] (by omega)
  refine ⟨G, ?_⟩
  unfold mLc mB
  rw [hi]
  dsimp only
  rw [e]
  rfl
theorem kit7' : kitB "list" "tuple" = some false := by decide +kernel
theorem get_app {S G : Sto} {i : Nat} {o : O} (h : S[i]? = some o) : (S ++ G)[i]? = some o := by
  rw [List.getElem?_append_left]
  · exact h
  · exact (List.getElem?_eq_some_iff.mp h).1
theorem ty_lst {S : Sto} {i : Nat} {xs : List D} (h : S[i]? = some (.lst xs)) : tyD S (.ref i) = some "list" := by
  unfold tyD
  simp only [h]
theorem e_same_lst {i j : Nat} {S : Sto} {xs : List D} (hi : S[i]? = some (.lst xs)) (hj : S[j]? = some (.lst xs)) (hl : xs.length < 900) (hx : ∀ x ∈ xs, dOk 39 x) : ∃ G, F__law_same 40 [.ref i, .ref j] S = some (.val (.bl true) (S ++ G)) := by
  show ∃ G, fnOf 3 (m__law_same (F__law_same 39)) [.ref i, .ref j] S = _
  unfold m__law_same
  have a1 : gIsi [.ref j, .ty "tuple"] S = some (.bl false, S) := isi (ty_lst hj) kit7'
  have a2 : gIsi [.ref j, .ty "list"] S = some (.bl true, S) := isi (ty_lst hj) kit8
  have a3 : gIsi [.ref i, .ty "list"] S = some (.bl true, S) := isi (ty_lst hi) kit8
  obtain ⟨G, e⟩ := lc_none' (vs := [2]) (t := tN 2) (it := mRng1 (mCons (mBi gLen (mCons (mVar 1) mNil)) mNil)) (c := mNotB (mTru (mCall (F__law_same 39) (mCons (mOp gIx (mVar 0) (mVar 2)) (mCons (mOp gIx (mVar 1) (mVar 2)) mNil))))) (el := mVar 2)
    (ρ := [some (.ref i), some (.ref j), none]) (S := S) (S1 := S) (xs := rngD 0 xs.length)
    (mRng1_eq (n := (xs.length : Int)) (v_cons (v_bi (v_cons (v_var rfl) v_nil) (len_ref hj)) v_nil) (rngOk_nat (by omega))) (by rw [rngD_len]; exact lt_fuel (k := 10) (by omega) (by omega)) (fun x hxm G0 => by
      obtain ⟨m, hm, rfl⟩ := rngD_mem hxm
      obtain ⟨G', e'⟩ := e_same 39 xs[m] (hx _ (List.getElem_mem hm)) (S ++ G0)
      refine ⟨_, G', rfl, ?_⟩
      have gx : gIx (.ref i) (.int (m : Int)) (S ++ G0) = some (xs[m], S ++ G0) := ixR (get_app hi) (List.getElem?_eq_getElem hm)
      have gy : gIx (.ref j) (.int (m : Int)) (S ++ G0) = some (xs[m], S ++ G0) := ixR (get_app hj) (List.getElem?_eq_getElem hm)
      exact v_not (k := true) (v_tru (v_call (v_cons (v_op (v_var rfl) (v_var rfl) gx) (v_cons (v_op (v_var rfl) (v_var rfl) gy) v_nil)) e') rfl))
  refine ⟨.lst [] :: G, ?_⟩
  refine fn_ret ?_
  refine seq_nx (skip (v_T (v_bi (v_cons (v_var rfl) (v_cons v_ret v_nil)) a1))) ?_
  refine seq_ret (if_t (v_T (v_bi (v_cons (v_var rfl) (v_cons v_ret v_nil)) a2)) ?_)
  refine seq_nx (skip (v_or_f (v_not (k := true) (v_T (v_bi (v_cons (v_var rfl) (v_cons v_ret v_nil)) a3))) (v_T (v_op (v_bi (v_cons (v_var rfl) v_nil) (len_ref hi)) (v_bi (v_cons (v_var rfl) v_nil) (len_ref hj)) (by rw [ne_ii, decide_eq_true rfl]; rfl))))) ?_
  exact ret_eq (v_op (v_bi (v_cons e v_nil) (len_ref nth_last)) v_ret rfl)
/-! ### quotients -/
theorem inv_neg {y : Rat} (h : y.num < 0) : (y⁻¹).num = -(y.den : Int) ∧ ((y⁻¹).den : Int) = -y.num := by
  rw [Rat.inv_def]
  have := frac_neg (a := (y.den : Int)) (b := y.num) h
  have g : ((y.den : Int)).natAbs.gcd y.num.natAbs = 1 := by
    rw [Nat.gcd_comm]
    exact y.reduced
  rw [g] at this
  refine ⟨this.1.trans ?_, this.2.trans ?_⟩
  · exact Int.ediv_one _
  · exact Int.ediv_one _
theorem inv_pos {y : Rat} (h : 0 < y.num) : (y⁻¹).num = (y.den : Int) ∧ ((y⁻¹).den : Int) = y.num := by
  rw [Rat.inv_def]
  have := frac_pos (a := (y.den : Int)) (b := y.num) h
  have g : ((y.den : Int)).natAbs.gcd y.num.natAbs = 1 := by
    rw [Nat.gcd_comm]
    exact y.reduced
  rw [g] at this
  refine ⟨this.1.trans ?_, this.2.trans ?_⟩
  · exact Int.ediv_one _
  · exact Int.ediv_one _
theorem sz_inv {n : Nat} {y : Rat} (h : sz n y) (z : y.num ≠ 0) : sz n y⁻¹ := by
  by_cases c : y.num < 0
  · obtain ⟨p1, p2⟩ := inv_neg c
    exact ⟨by rw [p1]; exact h.2.neg, by rw [p2]; exact h.1.neg⟩
  · obtain ⟨p1, p2⟩ := inv_pos (y := y) (by omega)
    exact ⟨by rw [p1]; exact h.2, by rw [p2]; exact h.1⟩
theorem e_over {n : Nat} {x y : Rat} (hx : sz n x) (hy : sz n y) (z : y.num ≠ 0) (S : Sto) (h0 : 0 < n := by omega) (hn : n ≤ 4000 := by omega) : F_over [nq x, nq y] S = some (.val (nq (x * y⁻¹)) S) := by
  have e := e_times hx (sz_inv hy z) S
  unfold F_over m_over
  refine fn_ret ?_
  refine seq_nx (ρ' := [some (nq x), some (nq y), some (.int y.num), some (.int (y.den : Int))]) (S' := S) rfl ?_
  refine seq_nx (skip (v_T (v_op (v_var rfl) v_ret (by rw [eq_ii, decide_eq_false z])))) ?_
  by_cases c : y.num < 0
  · obtain ⟨p1, p2⟩ := inv_neg c
    rw [← nq_of (q := y⁻¹) p1.symm p2.symm] at e
    exact ret_eq (v_call (v_cons (v_var rfl) (v_cons (v_ife_t (v_T (v_op (v_var rfl) v_ret (by rw [lt_ii, decide_eq_true c]))) (v_pair (v_un (v_var rfl) neg_i) (v_un (v_var rfl) neg_i))) v_nil)) e)
  · obtain ⟨p1, p2⟩ := inv_pos (y := y) (by omega)
    rw [← nq_of (q := y⁻¹) p1.symm p2.symm] at e
    exact ret_eq (v_call (v_cons (v_var rfl) (v_cons (v_ife_f (v_T (v_op (v_var rfl) v_ret (by rw [lt_ii, decide_eq_false c]))) (v_pair (v_var rfl) (v_var rfl))) v_nil)) e)
theorem e_over0 {x y : Rat} (z : y.num = 0) (S : Sto) : F_over [nq x, nq y] S = some (.exc "BadNumber" S) := by
  have t : mT (mOp gEq (mVar 2) (mRet (.int 0))) [some (nq x), some (nq y), some (.int y.num), some (.int (y.den : Int))] S = some (.val true S) := v_T (v_op (v_var rfl) v_ret (by rw [eq_ii, decide_eq_true z]))
  have e : m_over [some (nq x), some (nq y), none, none] S = some (.exc "BadNumber" [some (nq x), some (nq y), some (.int y.num), some (.int (y.den : Int))] S) := by
    unfold m_over
    refine seq_nx (ρ' := [some (nq x), some (nq y), some (.int y.num), some (.int (y.den : Int))]) (S' := S) rfl ?_
    have i : sIf (mT (mOp gEq (mVar 2) (mRet (.int 0)))) (sRaise "BadNumber") sNil [some (nq x), some (nq y), some (.int y.num), some (.int (y.den : Int))] S = some (.exc "BadNumber" [some (nq x), some (nq y), some (.int y.num), some (.int (y.den : Int))] S) := if_t t rfl
    unfold sSeq
    rw [i]
  show fnOf 4 m_over [nq x, nq y] S = _
  unfold fnOf
  have e' : m_over (List.map some [nq x, nq y] ++ List.replicate (4 - [nq x, nq y].length) none) S = _ := e
  rw [e']
def quo (x y : Rat) : D := if y.num = 0 then .non else nq (x * y⁻¹)
theorem e_quotient {n : Nat} {x y : Rat} (hx : sz n x) (hy : sz n y) (S : Sto) (h0 : 0 < n := by omega) (hn : n ≤ 4000 := by omega) : F__law_quotient [nq x, nq y] S = some (.val (quo x y) S) := by
  unfold F__law_quotient m__law_quotient quo
  refine fn_ret ?_
  by_cases z : y.num = 0
  · rw [if_pos z]
    have e := e_over0 (x := x) z S
    have c : mCall F_over (mCons (mVar 0) (mCons (mVar 1) mNil)) [some (nq x), some (nq y)] S = some (.exc "BadNumber" S) := v_call (v_cons (v_var rfl) (v_cons (v_var rfl) v_nil)) e
    have r : sRet (mCall F_over (mCons (mVar 0) (mCons (mVar 1) mNil))) [some (nq x), some (nq y)] S = some (.exc "BadNumber" [some (nq x), some (nq y)] S) := by
      unfold sRet sB
      rw [c]
    show sTry _ _ _ [some (nq x), some (nq y)] S = _
    unfold sTry
    rw [r]
    dsimp only
    rw [if_pos rfl]
    rfl
  · rw [if_neg z]
    have e := e_over hx hy z S
    have r : sRet (mCall F_over (mCons (mVar 0) (mCons (mVar 1) mNil))) [some (nq x), some (nq y)] S = some (.ret (nq (x * y⁻¹)) S) := ret_eq (v_call (v_cons (v_var rfl) (v_cons (v_var rfl) v_nil)) e)
    show sTry _ _ _ [some (nq x), some (nq y)] S = _
    unfold sTry
    rw [r]
theorem e_law_over {n : Nat} {x y : Rat} (hx : sz n x) (hy : sz n y) (z : y.num ≠ 0) (S : Sto) (h0 : 0 < n := by omega) (hn : n ≤ 4000 := by omega) : F__law_over [nq x, nq y] S = some (.val (nq (x * y⁻¹)) S) := by
  have e : x * y⁻¹ = Rat.divInt (x.num * (y.den : Int)) ((x.den : Int) * y.num) := by
    rw [← Rat.divInt_mul_divInt, Rat.num_divInt_den, ← Rat.inv_def]
  have d : (x.den : Int) * y.num ≠ 0 := Int.mul_ne_zero (den_ne x) z
  rw [e]
  unfold F__law_over m__law_over
  exact fn_ret (ret_eq (v_call (v_cons (v_op (v_op (v_var rfl) v_ret (ix_n x S)) (v_op (v_var rfl) v_ret (ix_d y S)) (mul_ii (mulOk_sz hx.1 hy.2))) (v_cons (v_op (v_op (v_var rfl) v_ret (ix_d x S)) (v_op (v_var rfl) v_ret (ix_n y S)) (mul_ii (mulOk_sz hx.2 hy.1))) v_nil)) (e_frac d (hx.2.mul hy.1) S)))
theorem e_law_sign {q : Rat} (S : Sto) : F__law_sign [nq q] S = some (.val (.int ((if 0 < q then 1 else 0) - (if q < 0 then 1 else 0))) S) := by
  unfold F__law_sign m__law_sign
  refine fn_ret (ret_eq (v_op (v_bi (v_cons (v_op (v_op (v_var rfl) v_ret (ix_n q S)) v_ret gt_ii) v_nil) int_b) (v_bi (v_cons (v_op (v_op (v_var rfl) v_ret (ix_n q S)) v_ret lt_ii) v_nil) int_b) ?_))
  rw [sub_ii]
  simp only [num_pos, num_neg, decide_eq_true_eq]
end Gn
namespace Gn
open PySem PySem.Spec PyProof.Rows L2 Rf
theorem sign_eq {x y : Rat} : (if x < y then (-1 : Int) else if y < x then 1 else 0) = (if 0 < x - y then 1 else 0) - (if x - y < 0 then 1 else 0) := by
  by_cases c : x < y
  · rw [if_pos c, if_neg (by grind), if_pos (by grind)]; rfl
  · rw [if_neg c]
    by_cases c2 : y < x
    · rw [if_pos c2, if_pos (by grind), if_neg (by grind)]; rfl
    · rw [if_neg c2, if_neg (by grind), if_neg (by grind)]; rfl
theorem zero_sz : sz 2 (0 : Rat) := ⟨by show (0 : Int).natAbs < 2 ^ 2; decide, by show (1 : Int).natAbs < 2 ^ 2; decide⟩
theorem dk_quo {S : Sto} (x y : Rat) : ∃ G, F__law_same 40 [quo x y, quo x y] S = some (.val (.bl true) (S ++ G)) := by
  unfold quo
  split
  · exact e_same_non S
  · exact e_same 40 _ (dk_nq (k := 38) _) S
theorem e_turn (ns : List Int) (k : Nat) (x2 x3 x4 x5 x6 : Option D) (S : Sto) : ∃ (y2 y3 y4 y5 y6 : Option D) (S' : Sto),
    L0_law [some (.fro (ns.map D.int)), some (.int (k : Int)), x2, x3, x4, x5, x6] S = some (.nx [some (.fro (ns.map D.int)), some (.int (k : Int)), y2, y3, y4, y5, y6] S') := by
  obtain ⟨c, ec⟩ := e_cell (ns := ns) (k := k) S
  obtain ⟨new, nl, _, ed⟩ := e_draws c 7 S (by decide)
  generalize hS1 : S ++ [O.lst (new.map D.int)] = S1 at ed
  have hr : S1[S.length]? = some (.lst (new.map D.int)) := by rw [← hS1]; exact nth_last
  have item : ∀ j : Nat, j < 7 → ∃ r : Int, ∀ G, gIx (.ref S.length) (.int (j : Int)) (S1 ++ G) = some (.int r, S1 ++ G) := fun j hj => by
    have hlt : j < new.length := by omega
    exact ⟨new[j], fun G => ixR (xs := new.map D.int) (get_app hr) (by rw [List.getElem?_map, List.getElem?_eq_getElem hlt]; rfl)⟩
  have item0 : ∀ j : Nat, j < 7 → ∃ r : Int, gIx (.ref S.length) (.int (j : Int)) S1 = some (.int r, S1) ∧ ∀ G, gIx (.ref S.length) (.int (j : Int)) (S1 ++ G) = some (.int r, S1 ++ G) := fun j hj => by
    obtain ⟨r, h⟩ := item j hj
    have h0 := h []
    rw [List.append_nil] at h0
    exact ⟨r, h0, h⟩
  obtain ⟨r0, i0, _⟩ := item0 0 (by decide)
  obtain ⟨r1, i1, _⟩ := item0 1 (by decide)
  obtain ⟨r2, i2, _⟩ := item0 2 (by decide)
  obtain ⟨r3, i3, _⟩ := item0 3 (by decide)
  obtain ⟨r4, i4, i4'⟩ := item0 4 (by decide)
  obtain ⟨r5, i5, i5'⟩ := item0 5 (by decide)
  obtain ⟨x, sx, eX⟩ := e_any_number r0 r1 S1
  obtain ⟨y0, sy0, eY⟩ := e_any_number r2 r3 S1
  have second : ∃ (y : Rat) (G : Sto), sz 160 y ∧ (sIf (mT (mOp gEq (mOp gMod (mOp gIx (mVar 2) (mRet (.int 4))) (mRet (.int 4))) (mRet (.int 1)))) (sSet 4 (mOp gIx (mLst (mCons (mVar 3) (mCons (mCall F__law_neg (mCons (mVar 3) mNil)) (mCons (mTup (mCons (mRet (.int 0)) (mCons (mRet (.int 1)) mNil))) mNil)))) (mOp gMod (mOp gDiv (mOp gIx (mVar 2) (mRet (.int 4))) (mRet (.int 4))) (mRet (.int 3))))) sNil)
        [some (.fro (ns.map D.int)), some (.int (k : Int)), some (.ref S.length), some (nq x), some (nq y0), x5, x6] S1 = some (.nx [some (.fro (ns.map D.int)), some (.int (k : Int)), some (.ref S.length), some (nq x), some (nq y), x5, x6] (S1 ++ G)) := by
    generalize hρ : [some (D.fro (ns.map D.int)), some (D.int (k : Int)), some (D.ref S.length), some (nq x), some (nq y0), x5, x6] = ρ
    have v2 : ∀ S', mVar 2 ρ S' = some (.val (.ref S.length) S') := fun S' => v_var (by rw [← hρ]; rfl)
    have v3 : ∀ S', mVar 3 ρ S' = some (.val (nq x) S') := fun S' => v_var (by rw [← hρ]; rfl)
    have t : mT (mOp gEq (mOp gMod (mOp gIx (mVar 2) (mRet (.int 4))) (mRet (.int 4))) (mRet (.int 1))) ρ S1 = some (.val (decide (r4.fmod 4 = 1)) S1) := v_T (v_op (v_op (v_op (v2 _) v_ret i4) v_ret (mod_ii (by decide))) v_ret eq_ii)
    by_cases k3 : r4.fmod 4 = 1
    · rw [decide_eq_true k3] at t
      have L := lst3 (S := S1) (S1 := S1) (S2 := S1) (S3 := S1) (v3 S1) (v_call (v_cons (v3 S1) v_nil) (e_law_neg x S1)) (v_pair (v_ret (a := D.int 0)) (v_ret (a := D.int 1)))
      obtain ⟨d, hd, e⟩ := pick3 (id := S1.length) (S := S1 ++ [.lst [nq x, nq (-x), nq 0]]) nth_last (r4.fdiv 4)
      have E := v_op L (v_op (v_op (v_op (v2 _) v_ret (i4' _)) v_ret (div_ii (divOk_lit (by decide) (by decide)))) v_ret (mod_ii (by decide))) e
      have hd' : ∃ y : Rat, sz 160 y ∧ d = nq y := by
        rcases hd with hd | hd | hd
        · exact ⟨_, sx, hd⟩
        · exact ⟨_, sz_neg sx, hd⟩
        · exact ⟨_, zero_sz.mono (by omega), hd⟩
      obtain ⟨y, hy, rfl⟩ := hd'
      refine ⟨y, [.lst [nq x, nq (-x), nq 0]], hy, ?_⟩
      refine (if_t t (set_eq E)).trans ?_
      rw [← hρ]
      rfl
    · rw [decide_eq_false k3] at t
      refine ⟨y0, [], sy0, ?_⟩
      rw [List.append_nil, ← hρ]
      rw [← hρ] at t
      exact skip t
  obtain ⟨y, G2, sy, eS2⟩ := second
  generalize hS2 : S1 ++ G2 = S2 at eS2
  have i5b : gIx (.ref S.length) (.int 5) S2 = some (.int r5, S2) := by rw [← hS2]; exact i5' G2
  have b7 := fm (x := r5) (m := 7) (by decide)
  obtain ⟨e, he⟩ : ∃ e : Nat, r5.fmod 7 = (e : Int) := ⟨(r5.fmod 7).toNat, by omega⟩
  have m7 := mod_ii (i := r5) (j := 7) (S := S2) (by decide)
  rw [he] at m7
  have e6 : e ≤ 6 := by omega
  generalize hρ : [some (D.fro (ns.map D.int)), some (D.int (k : Int)), some (D.ref S.length), some (nq x), some (nq y), some (D.int (e : Int)), x6] = ρ
  have v3 : ∀ S', mVar 3 ρ S' = some (.val (nq x) S') := fun S' => v_var (by rw [← hρ]; rfl)
  have v4 : ∀ S', mVar 4 ρ S' = some (.val (nq y) S') := fun S' => v_var (by rw [← hρ]; rfl)
  -- the three at once
  have L1 := lst3 (v_call (v_cons (v3 S2) (v_cons (v4 S2) v_nil)) (e_plus sx sy S2)) (v_call (v_cons (v3 S2) (v_cons (v4 S2) v_nil)) (e_minus sx sy S2)) (v_call (v_cons (v3 S2) (v_cons (v4 S2) v_nil)) (e_times sx sy S2))
  generalize hS3 : S2 ++ [O.lst [nq (x + y), nq (x - y), nq (x * y)]] = S3 at L1
  have h3 : S3[S2.length]? = some (.lst [nq (x + y), nq (x - y), nq (x * y)]) := by rw [← hS3]; exact nth_last
  have L2 := lst3 (v_call (v_cons (v3 S3) (v_cons (v4 S3) v_nil)) (e_law_add sx sy S3)) (v_call (v_cons (v3 S3) (v_cons (v4 S3) v_nil)) (e_law_sub sx sy S3)) (v_call (v_cons (v3 S3) (v_cons (v4 S3) v_nil)) (e_law_mul sx sy S3))
  have h4 : (S3 ++ [O.lst [nq (x + y), nq (x - y), nq (x * y)]])[S3.length]? = some (.lst [nq (x + y), nq (x - y), nq (x * y)]) := nth_last
  obtain ⟨G4, e4⟩ := e_same_lst (get_app (G := [O.lst [nq (x + y), nq (x - y), nq (x * y)]]) h3) h4 (by show 3 < 900; decide) (fun d hd => by
    rcases List.mem_cons.mp hd with rfl | hd
    · exact dk_nq (k := 37) _
    · rcases List.mem_cons.mp hd with rfl | hd
      · exact dk_nq (k := 37) _
      · rcases List.mem_cons.mp hd with rfl | hd
        · exact dk_nq (k := 37) _
        · cases hd)
  have three := v_not (k := true) (v_tru (v_call (v_cons L1 (v_cons L2 v_nil)) e4) rfl)
  generalize hS5 : S3 ++ [O.lst [nq (x + y), nq (x - y), nq (x * y)]] ++ G4 = S5 at three
  -- the quotient
  have due : sIf (mT (mOp gNe (mOp gIx (mVar 4) (mRet (.int 0))) (mRet (.int 0)))) (sSet 6 (mCall F__law_over (mCons (mVar 3) (mCons (mVar 4) mNil)))) sNil [some (D.fro (ns.map D.int)), some (D.int (k : Int)), some (D.ref S.length), some (nq x), some (nq y), some (D.int (e : Int)), some .non] S5 = some (.nx [some (D.fro (ns.map D.int)), some (D.int (k : Int)), some (D.ref S.length), some (nq x), some (nq y), some (D.int (e : Int)), some (quo x y)] S5) := by
    have t : mT (mOp gNe (mOp gIx (mVar 4) (mRet (.int 0))) (mRet (.int 0))) [some (D.fro (ns.map D.int)), some (D.int (k : Int)), some (D.ref S.length), some (nq x), some (nq y), some (D.int (e : Int)), some .non] S5 = some (.val (!decide (y.num = 0)) S5) := v_T (v_op (v_op (v_var rfl) v_ret (ix_n y S5)) v_ret ne_ii)
    unfold quo
    by_cases z : y.num = 0
    · rw [decide_eq_true z] at t
      rw [if_pos z]
      exact skip t
    · rw [decide_eq_false z] at t
      rw [if_neg z]
      exact if_t t (set_eq (v_call (v_cons (v_var rfl) (v_cons (v_var rfl) v_nil)) (e_law_over sx sy z S5)))
  have eQ := e_quotient sx sy S5
  obtain ⟨G5, same5⟩ := dk_quo (S := S5) x y
  generalize hρ6 : [some (D.fro (ns.map D.int)), some (D.int (k : Int)), some (D.ref S.length), some (nq x), some (nq y), some (D.int (e : Int)), some (quo x y)] = ρ6 at due
  have w3 : ∀ S', mVar 3 ρ6 S' = some (.val (nq x) S') := fun S' => v_var (by rw [← hρ6]; rfl)
  have w4 : ∀ S', mVar 4 ρ6 S' = some (.val (nq y) S') := fun S' => v_var (by rw [← hρ6]; rfl)
  have w5 : ∀ S', mVar 5 ρ6 S' = some (.val (.int (e : Int)) S') := fun S' => v_var (by rw [← hρ6]; rfl)
  have w6 : ∀ S', mVar 6 ρ6 S' = some (.val (quo x y) S') := fun S' => v_var (by rw [← hρ6]; rfl)
  have q5 := v_not (k := true) (v_tru (v_call (v_cons (v_call (v_cons (w3 S5) (v_cons (w4 S5) v_nil)) eQ) (v_cons (w6 S5) v_nil)) same5) rfl)
  generalize hS6 : S5 ++ G5 = S6 at q5
  obtain ⟨G6, same6⟩ := e_same 40 _ (dk_nq (k := 38) (x ^ e)) S6
  have q6 := v_not (k := true) (v_tru (v_call (v_cons (v_call (v_cons (w3 S6) (v_cons (w5 S6) v_nil)) (e_power (k := e) sx S6)) (v_cons (v_call (v_cons (w3 S6) (v_cons (w5 S6) v_nil)) (e_law_power (k := e) sx S6)) v_nil)) same6) rfl)
  generalize hS7 : S6 ++ G6 = S7 at q6
  have eC := e_compare sx sy S7
  rw [sign_eq] at eC
  have q7 := v_not (k := true) (v_tru (v_call (v_cons (v_call (v_cons (w3 S7) (v_cons (w4 S7) v_nil)) eC) (v_cons (v_call (v_cons (v_call (v_cons (w3 S7) (v_cons (w4 S7) v_nil)) (e_law_sub sx sy S7)) v_nil) (e_law_sign S7)) v_nil)) (e_is_number _ S7)) rfl)
  have fin : L0_law [some (.fro (ns.map D.int)), some (.int (k : Int)), x2, x3, x4, x5, x6] S = some (.nx ρ6 S7) := ?_
  · rw [← hρ6] at fin
    exact ⟨_, _, _, _, _, _, fin⟩
  unfold L0_law
  refine seq_nx (set_eq (v_call (v_cons (v_call (v_cons (v_var rfl) (v_cons (v_var rfl) v_nil)) ec) (v_cons v_ret v_nil)) ed)) ?_
  refine seq_nx (set_eq (v_call (v_cons (v_op (v_var rfl) v_ret i0) (v_cons (v_op (v_var rfl) v_ret i1) v_nil)) eX)) ?_
  refine seq_nx (set_eq (v_call (v_cons (v_op (v_var rfl) v_ret i2) (v_cons (v_op (v_var rfl) v_ret i3) v_nil)) eY)) ?_
  refine seq_nx eS2 ?_
  refine seq_nx (set_eq (v_op (v_op (v_var rfl) v_ret i5b) v_ret m7)) ?_
  show sSeq _ _ [some (D.fro (ns.map D.int)), some (D.int (k : Int)), some (D.ref S.length), some (nq x), some (nq y), some (D.int (e : Int)), x6] S2 = _
  rw [hρ]
  refine seq_nx (skip three) ?_
  rw [← hρ]
  refine seq_nx (set_eq v_ret) ?_
  refine seq_nx due ?_
  refine seq_nx (skip q5) ?_
  refine seq_nx (skip q6) ?_
  exact skip q7
theorem turns (ns : List Int) : ∀ (n lo : Nat) (x1 x2 x3 x4 x5 x6 : Option D) (S : Sto), ∃ (y1 y2 y3 y4 y5 y6 : Option D) (S' : Sto),
    forI (tN 1) L0_law (rngD (lo : Int) n) [some (.fro (ns.map D.int)), x1, x2, x3, x4, x5, x6] S = some (.nx [some (.fro (ns.map D.int)), y1, y2, y3, y4, y5, y6] S')
  | 0, lo, x1, x2, x3, x4, x5, x6, S => ⟨x1, x2, x3, x4, x5, x6, S, rfl⟩
  | n + 1, lo, x1, x2, x3, x4, x5, x6, S => by
    obtain ⟨y2, y3, y4, y5, y6, S1, e⟩ := e_turn ns lo x2 x3 x4 x5 x6 S
    obtain ⟨z1, z2, z3, z4, z5, z6, S2, e2⟩ := turns ns n (lo + 1) (some (.int (lo : Int))) y2 y3 y4 y5 y6 S1
    refine ⟨z1, z2, z3, z4, z5, z6, S2, ?_⟩
    rw [rngD_succ]
    exact (forI_nx rfl e).trans e2
theorem law_true (ns : List Int) (_ : ns.length ≤ 63) : ∃ S', F_law [.fro (ns.map D.int)] [] = some (.val (.bl true) S') := by
  obtain ⟨y1, y2, y3, y4, y5, y6, S', e⟩ := turns ns 3 0 none none none none none none []
  refine ⟨S', ?_⟩
  unfold F_law m_law
  exact fn_ret (seq_nx ((for_items (xs := rngD 0 3) (S1 := []) (mRng1_eq (n := 3) (v_cons v_ret v_nil) (by decide)) (by rw [rngD_len]; exact lt_fuel (k := 3) (by decide) (by omega))).trans e) (ret_eq v_ret))
end Gn
namespace Gn
open PySem PySem.Spec PyProof.Rows L2 Rf
/-- what is promised of the law -/
def spLaw (K : PySem.W.Frag) : Sp := fun vs H Q _ => ∃ (a : Addr) (ns : List Int), vs = [.ref a] ∧ SqL K H a (ns.map V.int) ∧ ns.length ≤ 63 ∧ ∀ H', Q (.bl true) H'
theorem rels_ints {K : PySem.W.Frag} {φ : Nat → Addr} {n : Nat} {H : Hp} : ∀ ns : List Int, Rels K φ n H (ns.map V.int) (ns.map D.int)
  | [] => .nil
  | x :: r => .cons (.int x) (rels_ints r)
theorem law_sp {K : PySem.W.Frag} {ec : Str → Value} {F : List D → Sto → Option (R D)} (h : ∀ ns : List Int, ns.length ≤ 63 → ∃ S', F [.fro (ns.map D.int)] [] = some (.val (.bl true) S')) : ∀ vs H Q E, spLaw K vs H Q E → spF K ec 1 F vs H Q E := by
  intro vs H Q E hs
  obtain ⟨a, ns, rfl, hS, hl, q⟩ := hs
  obtain ⟨S', e⟩ := h ns hl
  refine ⟨fun _ => 0, [], [.fro (ns.map D.int)], ⟨fun i o z => by simp at z, fun i j z => absurd z (by simp)⟩, .cons (.fro ?_ (rels_ints ns)) .nil, rfl, _, e, fun φ' H' v ex ok r => ?_⟩
  · rcases hS with hS | hS
    · exact .inl ⟨hS, fun i z => absurd z (by simp)⟩
    · exact .inr hS
  · cases r
    exact q H'
theorem cx_none {P : Program} {w : World} {H : Hp} {s : Shared} {e : Value} {s' : Shared} (h : L2.CX P w [] H s (fun _ _ _ => False) e s') : False := by
  obtain ⟨_, _, _, _, _, _, _, _, _, _, _, _, z⟩ := h
  exact z
theorem all_mk {P : Program} {w : World} {K : PySem.W.Frag} {h : Heap} {mg : Str → Option Value} {fa : Addr} (X : K.In h) (G : h.Ns mainGlobals mg) (hfa : mg "law" = some (.ref fa))
    {f0 : Addr} {od0 an0 : Option Addr} {sl0 : Array (Option Value)} {oc0 kV0 dc0 pm0 cd0 ct0 : Value}
    (a0 : PySem.W.nsIn K mainGlobals "plus" = some (some (.ref f0))) (l0 : K.lookup f0 = some ⟨oc0, od0, .func (PySem.W.fnOf "plus" "plus" (defArgs s_plus) (defBody s_plus) (defScope s_plus) .none kV0 dc0 pm0 an0 cd0 ct0), sl0⟩) (c0 : PySem.W.codeIn K cd0 "plus" = true) (k0 : PySem.W.keepIn K (.ref f0) = true)
    {f1 : Addr} {od1 an1 : Option Addr} {sl1 : Array (Option Value)} {oc1 kV1 dc1 pm1 cd1 ct1 : Value}
    (a1 : PySem.W.nsIn K mainGlobals "minus" = some (some (.ref f1))) (l1 : K.lookup f1 = some ⟨oc1, od1, .func (PySem.W.fnOf "minus" "minus" (defArgs s_minus) (defBody s_minus) (defScope s_minus) .none kV1 dc1 pm1 an1 cd1 ct1), sl1⟩) (c1 : PySem.W.codeIn K cd1 "minus" = true) (k1 : PySem.W.keepIn K (.ref f1) = true)
    {f2 : Addr} {od2 an2 : Option Addr} {sl2 : Array (Option Value)} {oc2 kV2 dc2 pm2 cd2 ct2 : Value}
    (a2 : PySem.W.nsIn K mainGlobals "times" = some (some (.ref f2))) (l2 : K.lookup f2 = some ⟨oc2, od2, .func (PySem.W.fnOf "times" "times" (defArgs s_times) (defBody s_times) (defScope s_times) .none kV2 dc2 pm2 an2 cd2 ct2), sl2⟩) (c2 : PySem.W.codeIn K cd2 "times" = true) (k2 : PySem.W.keepIn K (.ref f2) = true)
    {f3 : Addr} {od3 an3 : Option Addr} {sl3 : Array (Option Value)} {oc3 kV3 dc3 pm3 cd3 ct3 : Value}
    (a3 : PySem.W.nsIn K mainGlobals "over" = some (some (.ref f3))) (l3 : K.lookup f3 = some ⟨oc3, od3, .func (PySem.W.fnOf "over" "over" (defArgs s_over) (defBody s_over) (defScope s_over) .none kV3 dc3 pm3 an3 cd3 ct3), sl3⟩) (c3 : PySem.W.codeIn K cd3 "over" = true) (k3 : PySem.W.keepIn K (.ref f3) = true)
    {f4 : Addr} {od4 an4 : Option Addr} {sl4 : Array (Option Value)} {oc4 kV4 dc4 pm4 cd4 ct4 : Value}
    (a4 : PySem.W.nsIn K mainGlobals "compare" = some (some (.ref f4))) (l4 : K.lookup f4 = some ⟨oc4, od4, .func (PySem.W.fnOf "compare" "compare" (defArgs s_compare) (defBody s_compare) (defScope s_compare) .none kV4 dc4 pm4 an4 cd4 ct4), sl4⟩) (c4 : PySem.W.codeIn K cd4 "compare" = true) (k4 : PySem.W.keepIn K (.ref f4) = true)
    {f5 : Addr} {od5 an5 : Option Addr} {sl5 : Array (Option Value)} {oc5 kV5 dc5 pm5 cd5 ct5 : Value}
    (a5 : PySem.W.nsIn K mainGlobals "whole_power" = some (some (.ref f5))) (l5 : K.lookup f5 = some ⟨oc5, od5, .func (PySem.W.fnOf "whole_power" "whole_power" (defArgs s_whole_power) (defBody s_whole_power) (defScope s_whole_power) .none kV5 dc5 pm5 an5 cd5 ct5), sl5⟩) (c5 : PySem.W.codeIn K cd5 "whole_power" = true) (k5 : PySem.W.keepIn K (.ref f5) = true)
    {f6 : Addr} {od6 an6 : Option Addr} {sl6 : Array (Option Value)} {oc6 kV6 dc6 pm6 cd6 ct6 : Value}
    (a6 : PySem.W.nsIn K mainGlobals "power" = some (some (.ref f6))) (l6 : K.lookup f6 = some ⟨oc6, od6, .func (PySem.W.fnOf "power" "power" (defArgs s_power) (defBody s_power) (defScope s_power) .none kV6 dc6 pm6 an6 cd6 ct6), sl6⟩) (c6 : PySem.W.codeIn K cd6 "power" = true) (k6 : PySem.W.keepIn K (.ref f6) = true)
    {f7 : Addr} {od7 an7 : Option Addr} {sl7 : Array (Option Value)} {oc7 kV7 dc7 pm7 cd7 ct7 : Value}
    (a7 : PySem.W.nsIn K mainGlobals "_law_cell" = some (some (.ref f7))) (l7 : K.lookup f7 = some ⟨oc7, od7, .func (PySem.W.fnOf "_law_cell" "_law_cell" (defArgs s__law_cell) (defBody s__law_cell) (defScope s__law_cell) .none kV7 dc7 pm7 an7 cd7 ct7), sl7⟩) (c7 : PySem.W.codeIn K cd7 "_law_cell" = true) (k7 : PySem.W.keepIn K (.ref f7) = true)
    {f8 : Addr} {od8 an8 : Option Addr} {sl8 : Array (Option Value)} {oc8 kV8 dc8 pm8 cd8 ct8 : Value}
    (a8 : PySem.W.nsIn K mainGlobals "_law_draws" = some (some (.ref f8))) (l8 : K.lookup f8 = some ⟨oc8, od8, .func (PySem.W.fnOf "_law_draws" "_law_draws" (defArgs s__law_draws) (defBody s__law_draws) (defScope s__law_draws) .none kV8 dc8 pm8 an8 cd8 ct8), sl8⟩) (c8 : PySem.W.codeIn K cd8 "_law_draws" = true) (k8 : PySem.W.keepIn K (.ref f8) = true)
    {f9 : Addr} {od9 an9 : Option Addr} {sl9 : Array (Option Value)} {oc9 kV9 dc9 pm9 cd9 ct9 : Value}
    (a9 : PySem.W.nsIn K mainGlobals "_law_is_int" = some (some (.ref f9))) (l9 : K.lookup f9 = some ⟨oc9, od9, .func (PySem.W.fnOf "_law_is_int" "_law_is_int" (defArgs s__law_is_int) (defBody s__law_is_int) (defScope s__law_is_int) .none kV9 dc9 pm9 an9 cd9 ct9), sl9⟩) (c9 : PySem.W.codeIn K cd9 "_law_is_int" = true) (k9 : PySem.W.keepIn K (.ref f9) = true)
    {f10 : Addr} {od10 an10 : Option Addr} {sl10 : Array (Option Value)} {oc10 kV10 dc10 pm10 cd10 ct10 : Value}
    (a10 : PySem.W.nsIn K mainGlobals "_law_is_text" = some (some (.ref f10))) (l10 : K.lookup f10 = some ⟨oc10, od10, .func (PySem.W.fnOf "_law_is_text" "_law_is_text" (defArgs s__law_is_text) (defBody s__law_is_text) (defScope s__law_is_text) .none kV10 dc10 pm10 an10 cd10 ct10), sl10⟩) (c10 : PySem.W.codeIn K cd10 "_law_is_text" = true) (k10 : PySem.W.keepIn K (.ref f10) = true)
    {f11 : Addr} {od11 an11 : Option Addr} {sl11 : Array (Option Value)} {oc11 kV11 dc11 pm11 cd11 ct11 : Value}
    (a11 : PySem.W.nsIn K mainGlobals "_law_is_number" = some (some (.ref f11))) (l11 : K.lookup f11 = some ⟨oc11, od11, .func (PySem.W.fnOf "_law_is_number" "_law_is_number" (defArgs s__law_is_number) (defBody s__law_is_number) (defScope s__law_is_number) .none kV11 dc11 pm11 an11 cd11 ct11), sl11⟩) (c11 : PySem.W.codeIn K cd11 "_law_is_number" = true) (k11 : PySem.W.keepIn K (.ref f11) = true)
    {f12 : Addr} {od12 an12 : Option Addr} {sl12 : Array (Option Value)} {oc12 kV12 dc12 pm12 cd12 ct12 : Value}
    (a12 : PySem.W.nsIn K mainGlobals "_law_gcd" = some (some (.ref f12))) (l12 : K.lookup f12 = some ⟨oc12, od12, .func (PySem.W.fnOf "_law_gcd" "_law_gcd" (defArgs s__law_gcd) (defBody s__law_gcd) (defScope s__law_gcd) .none kV12 dc12 pm12 an12 cd12 ct12), sl12⟩) (c12 : PySem.W.codeIn K cd12 "_law_gcd" = true) (k12 : PySem.W.keepIn K (.ref f12) = true)
    {f13 : Addr} {od13 an13 : Option Addr} {sl13 : Array (Option Value)} {oc13 kV13 dc13 pm13 cd13 ct13 : Value}
    (a13 : PySem.W.nsIn K mainGlobals "_law_frac" = some (some (.ref f13))) (l13 : K.lookup f13 = some ⟨oc13, od13, .func (PySem.W.fnOf "_law_frac" "_law_frac" (defArgs s__law_frac) (defBody s__law_frac) (defScope s__law_frac) .none kV13 dc13 pm13 an13 cd13 ct13), sl13⟩) (c13 : PySem.W.codeIn K cd13 "_law_frac" = true) (k13 : PySem.W.keepIn K (.ref f13) = true)
    {f14 : Addr} {od14 an14 : Option Addr} {sl14 : Array (Option Value)} {oc14 kV14 dc14 pm14 cd14 ct14 : Value}
    (a14 : PySem.W.nsIn K mainGlobals "_law_add" = some (some (.ref f14))) (l14 : K.lookup f14 = some ⟨oc14, od14, .func (PySem.W.fnOf "_law_add" "_law_add" (defArgs s__law_add) (defBody s__law_add) (defScope s__law_add) .none kV14 dc14 pm14 an14 cd14 ct14), sl14⟩) (c14 : PySem.W.codeIn K cd14 "_law_add" = true) (k14 : PySem.W.keepIn K (.ref f14) = true)
    {f15 : Addr} {od15 an15 : Option Addr} {sl15 : Array (Option Value)} {oc15 kV15 dc15 pm15 cd15 ct15 : Value}
    (a15 : PySem.W.nsIn K mainGlobals "_law_neg" = some (some (.ref f15))) (l15 : K.lookup f15 = some ⟨oc15, od15, .func (PySem.W.fnOf "_law_neg" "_law_neg" (defArgs s__law_neg) (defBody s__law_neg) (defScope s__law_neg) .none kV15 dc15 pm15 an15 cd15 ct15), sl15⟩) (c15 : PySem.W.codeIn K cd15 "_law_neg" = true) (k15 : PySem.W.keepIn K (.ref f15) = true)
    {f16 : Addr} {od16 an16 : Option Addr} {sl16 : Array (Option Value)} {oc16 kV16 dc16 pm16 cd16 ct16 : Value}
    (a16 : PySem.W.nsIn K mainGlobals "_law_sub" = some (some (.ref f16))) (l16 : K.lookup f16 = some ⟨oc16, od16, .func (PySem.W.fnOf "_law_sub" "_law_sub" (defArgs s__law_sub) (defBody s__law_sub) (defScope s__law_sub) .none kV16 dc16 pm16 an16 cd16 ct16), sl16⟩) (c16 : PySem.W.codeIn K cd16 "_law_sub" = true) (k16 : PySem.W.keepIn K (.ref f16) = true)
    {f17 : Addr} {od17 an17 : Option Addr} {sl17 : Array (Option Value)} {oc17 kV17 dc17 pm17 cd17 ct17 : Value}
    (a17 : PySem.W.nsIn K mainGlobals "_law_mul" = some (some (.ref f17))) (l17 : K.lookup f17 = some ⟨oc17, od17, .func (PySem.W.fnOf "_law_mul" "_law_mul" (defArgs s__law_mul) (defBody s__law_mul) (defScope s__law_mul) .none kV17 dc17 pm17 an17 cd17 ct17), sl17⟩) (c17 : PySem.W.codeIn K cd17 "_law_mul" = true) (k17 : PySem.W.keepIn K (.ref f17) = true)
    {f18 : Addr} {od18 an18 : Option Addr} {sl18 : Array (Option Value)} {oc18 kV18 dc18 pm18 cd18 ct18 : Value}
    (a18 : PySem.W.nsIn K mainGlobals "_law_over" = some (some (.ref f18))) (l18 : K.lookup f18 = some ⟨oc18, od18, .func (PySem.W.fnOf "_law_over" "_law_over" (defArgs s__law_over) (defBody s__law_over) (defScope s__law_over) .none kV18 dc18 pm18 an18 cd18 ct18), sl18⟩) (c18 : PySem.W.codeIn K cd18 "_law_over" = true) (k18 : PySem.W.keepIn K (.ref f18) = true)
    {f19 : Addr} {od19 an19 : Option Addr} {sl19 : Array (Option Value)} {oc19 kV19 dc19 pm19 cd19 ct19 : Value}
    (a19 : PySem.W.nsIn K mainGlobals "_law_power" = some (some (.ref f19))) (l19 : K.lookup f19 = some ⟨oc19, od19, .func (PySem.W.fnOf "_law_power" "_law_power" (defArgs s__law_power) (defBody s__law_power) (defScope s__law_power) .none kV19 dc19 pm19 an19 cd19 ct19), sl19⟩) (c19 : PySem.W.codeIn K cd19 "_law_power" = true) (k19 : PySem.W.keepIn K (.ref f19) = true)
    {f20 : Addr} {od20 an20 : Option Addr} {sl20 : Array (Option Value)} {oc20 kV20 dc20 pm20 cd20 ct20 : Value}
    (a20 : PySem.W.nsIn K mainGlobals "_law_sign" = some (some (.ref f20))) (l20 : K.lookup f20 = some ⟨oc20, od20, .func (PySem.W.fnOf "_law_sign" "_law_sign" (defArgs s__law_sign) (defBody s__law_sign) (defScope s__law_sign) .none kV20 dc20 pm20 an20 cd20 ct20), sl20⟩) (c20 : PySem.W.codeIn K cd20 "_law_sign" = true) (k20 : PySem.W.keepIn K (.ref f20) = true)
    {f21 : Addr} {od21 an21 : Option Addr} {sl21 : Array (Option Value)} {oc21 kV21 dc21 pm21 cd21 ct21 : Value}
    (a21 : PySem.W.nsIn K mainGlobals "_law_same" = some (some (.ref f21))) (l21 : K.lookup f21 = some ⟨oc21, od21, .func (PySem.W.fnOf "_law_same" "_law_same" (defArgs s__law_same) (defBody s__law_same) (defScope s__law_same) .none kV21 dc21 pm21 an21 cd21 ct21), sl21⟩) (c21 : PySem.W.codeIn K cd21 "_law_same" = true) (k21 : PySem.W.keepIn K (.ref f21) = true)
    {f22 : Addr} {od22 an22 : Option Addr} {sl22 : Array (Option Value)} {oc22 kV22 dc22 pm22 cd22 ct22 : Value}
    (a22 : PySem.W.nsIn K mainGlobals "_law_any_number" = some (some (.ref f22))) (l22 : K.lookup f22 = some ⟨oc22, od22, .func (PySem.W.fnOf "_law_any_number" "_law_any_number" (defArgs s__law_any_number) (defBody s__law_any_number) (defScope s__law_any_number) .none kV22 dc22 pm22 an22 cd22 ct22), sl22⟩) (c22 : PySem.W.codeIn K cd22 "_law_any_number" = true) (k22 : PySem.W.keepIn K (.ref f22) = true)
    {f23 : Addr} {od23 an23 : Option Addr} {sl23 : Array (Option Value)} {oc23 kV23 dc23 pm23 cd23 ct23 : Value}
    (a23 : PySem.W.nsIn K mainGlobals "_law_quotient" = some (some (.ref f23))) (l23 : K.lookup f23 = some ⟨oc23, od23, .func (PySem.W.fnOf "_law_quotient" "_law_quotient" (defArgs s__law_quotient) (defBody s__law_quotient) (defScope s__law_quotient) .none kV23 dc23 pm23 an23 cd23 ct23), sl23⟩) (c23 : PySem.W.codeIn K cd23 "_law_quotient" = true) (k23 : PySem.W.keepIn K (.ref f23) = true)
    {f24 : Addr} {od24 an24 : Option Addr} {sl24 : Array (Option Value)} {oc24 kV24 dc24 pm24 cd24 ct24 : Value}
    (a24 : PySem.W.nsIn K mainGlobals "law" = some (some (.ref f24))) (l24 : K.lookup f24 = some ⟨oc24, od24, .func (PySem.W.fnOf "law" "law" (defArgs s_law) (defBody s_law) (defScope s_law) .none kV24 dc24 pm24 an24 cd24 ct24), sl24⟩) (c24 : PySem.W.codeIn K cd24 "law" = true) (k24 : PySem.W.keepIn K (.ref f24) = true)
    (z_abs : PySem.W.nsIn K mainGlobals "abs" = some none)
    (z_bool : PySem.W.nsIn K mainGlobals "bool" = some none)
    (z_int : PySem.W.nsIn K mainGlobals "int" = some none)
    (z_isinstance : PySem.W.nsIn K mainGlobals "isinstance" = some none)
    (z_len : PySem.W.nsIn K mainGlobals "len" = some none)
    (z_list : PySem.W.nsIn K mainGlobals "list" = some none)
    (z_range : PySem.W.nsIn K mainGlobals "range" = some none)
    (z_reversed : PySem.W.nsIn K mainGlobals "reversed" = some none)
    (z_str : PySem.W.nsIn K mainGlobals "str" = some none)
    (z_tuple : PySem.W.nsIn K mainGlobals "tuple" = some none)
    (z_gcd : PySem.W.nsIn K mainGlobals "gcd" = some (some (.builtin "math.gcd")))
    {c_BadNumber : Addr} (g_BadNumber : PySem.W.nsIn K mainGlobals "BadNumber" = some (some (.ref c_BadNumber))) (x_BadNumber : PySem.W.excIn K c_BadNumber [.type "ValueError", .type "Exception", .type "BaseException", .type "object"] "ValueError.__new__" = true) (k_BadNumber : PySem.W.keepIn K (.ref c_BadNumber) = true) (s_BadNumber : PySem.W.subIn K (.ref c_BadNumber) (.type "BaseException") = some true) (t_BadNumber : PySem.W.typeIn K (.ref c_BadNumber) = some (.type "type"))
    (i_BadNumber : PySem.W.isClsIn K c_BadNumber = true) (u_BadNumber : PySem.W.subIn K (.ref c_BadNumber) (.ref c_BadNumber) = some true) :
    ∃ fd : FuncData, (∀ (s : Shared) (v : Value), BindsTo s fd ⟨[v], []⟩ [("script", v)]) ∧ ∀ base : Heap, K.In base → base.Ns mainGlobals mg → FnOk P w K mg base (L2.CX P w) 44 fa fd ["script"] (spLaw K) := by
  have e : fa = f24 := Value.ref.inj (Option.some.inj (hfa.symm.trans (PySem.W.mg_of X G a24)))
  subst e
  have T : Txt K mg ⟨f0, _, f1, _, f2, _, f3, _, f4, _, f5, _, f6, _, f7, _, f8, _, f9, _, f10, _, f11, _, f12, _, f13, _, f14, _, f15, _, f16, _, f17, _, f18, _, f19, _, f20, _, f21, _, f22, _, f23, _, fa, _, 0, c_BadNumber⟩ := { F_plus := fun_mk (st := s_plus) l0 c0 k0, b_plus := (fun_mk (st := s_plus) l0 c0 k0).binds (ps := ["x", "y"]) (fun _ _ _ _ _ _ us hl => match us, hl with | [_, _], _ => rfl), g_plus := PySem.W.mg_of X G a0, F_minus := fun_mk (st := s_minus) l1 c1 k1, b_minus := (fun_mk (st := s_minus) l1 c1 k1).binds (ps := ["x", "y"]) (fun _ _ _ _ _ _ us hl => match us, hl with | [_, _], _ => rfl), g_minus := PySem.W.mg_of X G a1, F_times := fun_mk (st := s_times) l2 c2 k2, b_times := (fun_mk (st := s_times) l2 c2 k2).binds (ps := ["x", "y"]) (fun _ _ _ _ _ _ us hl => match us, hl with | [_, _], _ => rfl), g_times := PySem.W.mg_of X G a2, F_over := fun_mk (st := s_over) l3 c3 k3, b_over := (fun_mk (st := s_over) l3 c3 k3).binds (ps := ["x", "y"]) (fun _ _ _ _ _ _ us hl => match us, hl with | [_, _], _ => rfl), g_over := PySem.W.mg_of X G a3, F_compare := fun_mk (st := s_compare) l4 c4 k4, b_compare := (fun_mk (st := s_compare) l4 c4 k4).binds (ps := ["x", "y"]) (fun _ _ _ _ _ _ us hl => match us, hl with | [_, _], _ => rfl), g_compare := PySem.W.mg_of X G a4, F_whole_power := fun_mk (st := s_whole_power) l5 c5 k5, b_whole_power := (fun_mk (st := s_whole_power) l5 c5 k5).binds (ps := ["a", "k"]) (fun _ _ _ _ _ _ us hl => match us, hl with | [_, _], _ => rfl), g_whole_power := PySem.W.mg_of X G a5, F_power := fun_mk (st := s_power) l6 c6 k6, b_power := (fun_mk (st := s_power) l6 c6 k6).binds (ps := ["x", "k"]) (fun _ _ _ _ _ _ us hl => match us, hl with | [_, _], _ => rfl), g_power := PySem.W.mg_of X G a6, F__law_cell := fun_mk (st := s__law_cell) l7 c7 k7, b__law_cell := (fun_mk (st := s__law_cell) l7 c7 k7).binds (ps := ["script", "k"]) (fun _ _ _ _ _ _ us hl => match us, hl with | [_, _], _ => rfl), g__law_cell := PySem.W.mg_of X G a7, F__law_draws := fun_mk (st := s__law_draws) l8 c8 k8, b__law_draws := (fun_mk (st := s__law_draws) l8 c8 k8).binds (ps := ["cell", "count"]) (fun _ _ _ _ _ _ us hl => match us, hl with | [_, _], _ => rfl), g__law_draws := PySem.W.mg_of X G a8, F__law_is_int := fun_mk (st := s__law_is_int) l9 c9 k9, b__law_is_int := (fun_mk (st := s__law_is_int) l9 c9 k9).binds (ps := ["x"]) (fun _ _ _ _ _ _ us hl => match us, hl with | [_], _ => rfl), g__law_is_int := PySem.W.mg_of X G a9, F__law_is_text := fun_mk (st := s__law_is_text) l10 c10 k10, b__law_is_text := (fun_mk (st := s__law_is_text) l10 c10 k10).binds (ps := ["x", "due"]) (fun _ _ _ _ _ _ us hl => match us, hl with | [_, _], _ => rfl), g__law_is_text := PySem.W.mg_of X G a10, F__law_is_number := fun_mk (st := s__law_is_number) l11 c11 k11, b__law_is_number := (fun_mk (st := s__law_is_number) l11 c11 k11).binds (ps := ["x", "due"]) (fun _ _ _ _ _ _ us hl => match us, hl with | [_, _], _ => rfl), g__law_is_number := PySem.W.mg_of X G a11, F__law_gcd := fun_mk (st := s__law_gcd) l12 c12 k12, b__law_gcd := (fun_mk (st := s__law_gcd) l12 c12 k12).binds (ps := ["a", "b"]) (fun _ _ _ _ _ _ us hl => match us, hl with | [_, _], _ => rfl), g__law_gcd := PySem.W.mg_of X G a12, F__law_frac := fun_mk (st := s__law_frac) l13 c13 k13, b__law_frac := (fun_mk (st := s__law_frac) l13 c13 k13).binds (ps := ["a", "b"]) (fun _ _ _ _ _ _ us hl => match us, hl with | [_, _], _ => rfl), g__law_frac := PySem.W.mg_of X G a13, F__law_add := fun_mk (st := s__law_add) l14 c14 k14, b__law_add := (fun_mk (st := s__law_add) l14 c14 k14).binds (ps := ["x", "y"]) (fun _ _ _ _ _ _ us hl => match us, hl with | [_, _], _ => rfl), g__law_add := PySem.W.mg_of X G a14, F__law_neg := fun_mk (st := s__law_neg) l15 c15 k15, b__law_neg := (fun_mk (st := s__law_neg) l15 c15 k15).binds (ps := ["x"]) (fun _ _ _ _ _ _ us hl => match us, hl with | [_], _ => rfl), g__law_neg := PySem.W.mg_of X G a15, F__law_sub := fun_mk (st := s__law_sub) l16 c16 k16, b__law_sub := (fun_mk (st := s__law_sub) l16 c16 k16).binds (ps := ["x", "y"]) (fun _ _ _ _ _ _ us hl => match us, hl with | [_, _], _ => rfl), g__law_sub := PySem.W.mg_of X G a16, F__law_mul := fun_mk (st := s__law_mul) l17 c17 k17, b__law_mul := (fun_mk (st := s__law_mul) l17 c17 k17).binds (ps := ["x", "y"]) (fun _ _ _ _ _ _ us hl => match us, hl with | [_, _], _ => rfl), g__law_mul := PySem.W.mg_of X G a17, F__law_over := fun_mk (st := s__law_over) l18 c18 k18, b__law_over := (fun_mk (st := s__law_over) l18 c18 k18).binds (ps := ["x", "y"]) (fun _ _ _ _ _ _ us hl => match us, hl with | [_, _], _ => rfl), g__law_over := PySem.W.mg_of X G a18, F__law_power := fun_mk (st := s__law_power) l19 c19 k19, b__law_power := (fun_mk (st := s__law_power) l19 c19 k19).binds (ps := ["x", "k"]) (fun _ _ _ _ _ _ us hl => match us, hl with | [_, _], _ => rfl), g__law_power := PySem.W.mg_of X G a19, F__law_sign := fun_mk (st := s__law_sign) l20 c20 k20, b__law_sign := (fun_mk (st := s__law_sign) l20 c20 k20).binds (ps := ["x"]) (fun _ _ _ _ _ _ us hl => match us, hl with | [_], _ => rfl), g__law_sign := PySem.W.mg_of X G a20, F__law_same := fun_mk (st := s__law_same) l21 c21 k21, b__law_same := (fun_mk (st := s__law_same) l21 c21 k21).binds (ps := ["x", "due"]) (fun _ _ _ _ _ _ us hl => match us, hl with | [_, _], _ => rfl), g__law_same := PySem.W.mg_of X G a21, F__law_any_number := fun_mk (st := s__law_any_number) l22 c22 k22, b__law_any_number := (fun_mk (st := s__law_any_number) l22 c22 k22).binds (ps := ["draw", "more"]) (fun _ _ _ _ _ _ us hl => match us, hl with | [_, _], _ => rfl), g__law_any_number := PySem.W.mg_of X G a22, F__law_quotient := fun_mk (st := s__law_quotient) l23 c23 k23, b__law_quotient := (fun_mk (st := s__law_quotient) l23 c23 k23).binds (ps := ["x", "y"]) (fun _ _ _ _ _ _ us hl => match us, hl with | [_, _], _ => rfl), g__law_quotient := PySem.W.mg_of X G a23, F_law := fun_mk (st := s_law) l24 c24 k24, b_law := (fun_mk (st := s_law) l24 c24 k24).binds (ps := ["script"]) (fun _ _ _ _ _ _ us hl => match us, hl with | [_], _ => rfl), g_law := PySem.W.mg_of X G a24, z_abs := PySem.W.mg_none_of X G z_abs, z_bool := PySem.W.mg_none_of X G z_bool, z_int := PySem.W.mg_none_of X G z_int, z_isinstance := PySem.W.mg_none_of X G z_isinstance, z_len := PySem.W.mg_none_of X G z_len, z_list := PySem.W.mg_none_of X G z_list, z_range := PySem.W.mg_none_of X G z_range, z_reversed := PySem.W.mg_none_of X G z_reversed, z_str := PySem.W.mg_none_of X G z_str, z_tuple := PySem.W.mg_none_of X G z_tuple, z_gcd := PySem.W.mg_of X G z_gcd, g_BadNumber := PySem.W.mg_of X G g_BadNumber, x_BadNumber := x_BadNumber, k_BadNumber := k_BadNumber, s_BadNumber := s_BadNumber, t_BadNumber := t_BadNumber, i_BadNumber := i_BadNumber, u_BadNumber := u_BadNumber }
  exact ⟨_, fun s v => .of_eq rfl, fun base _ _ => (ok_law T).imp (law_sp law_true)⟩
end Gn
open PySem PySem.W PyProof.Rows
set_option maxHeartbeats 0 in
theorem PySem.Challenge.cw_rootfast_k03_sums_and_products_holds : PySem.Challenge.rw_rootfast_k03_sums_and_products.Holds := by
  w_on; o_law; k_head; (case hw => w_witness2)
  k_fill
  refine L2.walk_of (l := PySem.Challenge.rw_rootfast_k03_sums_and_products) (n := 63) (k := 44) (x := "script") (CX := fun w => L2.CX PySem.Challenge.rw_rootfast_k03_sums_and_products.prog w) (sp := fun w => Gn.spLaw _) rfl (by decide) rfl ⟨rfl, by decide, by decide⟩ (fun w h Y => PySem.W.kIn_of Y) ?F (fun _ _ a ns hl _ hS => ⟨a, ns, rfl, hS, hl, fun _ => rfl⟩) (fun _ _ _ _ _ h => Gn.cx_none h)
  case F =>
    intro w mg fa h KX G hmg
    refine' Gn.all_mk KX G hmg ?a0 ?l0 ?c0 ?k0 ?a1 ?l1 ?c1 ?k1 ?a2 ?l2 ?c2 ?k2 ?a3 ?l3 ?c3 ?k3 ?a4 ?l4 ?c4 ?k4 ?a5 ?l5 ?c5 ?k5 ?a6 ?l6 ?c6 ?k6 ?a7 ?l7 ?c7 ?k7 ?a8 ?l8 ?c8 ?k8 ?a9 ?l9 ?c9 ?k9 ?a10 ?l10 ?c10 ?k10 ?a11 ?l11 ?c11 ?k11 ?a12 ?l12 ?c12 ?k12 ?a13 ?l13 ?c13 ?k13 ?a14 ?l14 ?c14 ?k14 ?a15 ?l15 ?c15 ?k15 ?a16 ?l16 ?c16 ?k16 ?a17 ?l17 ?c17 ?k17 ?a18 ?l18 ?c18 ?k18 ?a19 ?l19 ?c19 ?k19 ?a20 ?l20 ?c20 ?k20 ?a21 ?l21 ?c21 ?k21 ?a22 ?l22 ?c22 ?k22 ?a23 ?l23 ?c23 ?k23 ?a24 ?l24 ?c24 ?k24 ?z_abs ?z_bool ?z_int ?z_isinstance ?z_len ?z_list ?z_range ?z_reversed ?z_str ?z_tuple ?z_gcd ?g_BadNumber ?x_BadNumber ?k_BadNumber ?s_BadNumber ?t_BadNumber ?i_BadNumber ?u_BadNumber
    (case a0 => k_is); (case l0 => k_is); (case c0 => k_is); (case k0 => k_is); (case a1 => k_is); (case l1 => k_is); (case c1 => k_is); (case k1 => k_is); (case a2 => k_is); (case l2 => k_is); (case c2 => k_is); (case k2 => k_is); (case a3 => k_is); (case l3 => k_is); (case c3 => k_is); (case k3 => k_is); (case a4 => k_is); (case l4 => k_is); (case c4 => k_is); (case k4 => k_is); (case a5 => k_is); (case l5 => k_is); (case c5 => k_is); (case k5 => k_is); (case a6 => k_is); (case l6 => k_is); (case c6 => k_is); (case k6 => k_is); (case a7 => k_is); (case l7 => k_is); (case c7 => k_is); (case k7 => k_is); (case a8 => k_is); (case l8 => k_is); (case c8 => k_is); (case k8 => k_is); (case a9 => k_is); (case l9 => k_is); (case c9 => k_is); (case k9 => k_is); (case a10 => k_is); (case l10 => k_is); (case c10 => k_is); (case k10 => k_is); (case a11 => k_is); (case l11 => k_is); (case c11 => k_is); (case k11 => k_is); (case a12 => k_is); (case l12 => k_is); (case c12 => k_is); (case k12 => k_is); (case a13 => k_is); (case l13 => k_is); (case c13 => k_is); (case k13 => k_is); (case a14 => k_is); (case l14 => k_is); (case c14 => k_is); (case k14 => k_is); (case a15 => k_is); (case l15 => k_is); (case c15 => k_is); (case k15 => k_is); (case a16 => k_is); (case l16 => k_is); (case c16 => k_is); (case k16 => k_is); (case a17 => k_is); (case l17 => k_is); (case c17 => k_is); (case k17 => k_is); (case a18 => k_is); (case l18 => k_is); (case c18 => k_is); (case k18 => k_is); (case a19 => k_is); (case l19 => k_is); (case c19 => k_is); (case k19 => k_is); (case a20 => k_is); (case l20 => k_is); (case c20 => k_is); (case k20 => k_is); (case a21 => k_is); (case l21 => k_is); (case c21 => k_is); (case k21 => k_is); (case a22 => k_is); (case l22 => k_is); (case c22 => k_is); (case k22 => k_is); (case a23 => k_is); (case l23 => k_is); (case c23 => k_is); (case k23 => k_is); (case a24 => k_is); (case l24 => k_is); (case c24 => k_is); (case k24 => k_is); (case z_abs => k_is); (case z_bool => k_is); (case z_int => k_is); (case z_isinstance => k_is); (case z_len => k_is); (case z_list => k_is); (case z_range => k_is); (case z_reversed => k_is); (case z_str => k_is); (case z_tuple => k_is); (case z_gcd => k_is); (case g_BadNumber => k_is); (case x_BadNumber => k_exc); (case k_BadNumber => k_is); (case s_BadNumber => k_is); (case t_BadNumber => k_is); (case i_BadNumber => k_is); (case u_BadNumber => k_is)
