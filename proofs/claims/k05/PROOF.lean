import PyProof.Rows.All
import Wide.All
import OpenK.AllK
import Wide.FinOn
import PySem.Challenge.RW_rootfast_k05_intervals_told
import HandS.Base
import HandS.Call
import HandS.List
import HandS.Comp
import HandS.Exc
import HandS.ExcOwn
import HandS.Words
import HandS.WideBits
import HandS.Wide
import HandS.IsInst
import HandS.Gcd
import HandS.TupAny
import HandS.Text
import HandS.More
import HandS.CallSlots
import HandS.WordsExc
import PyProof.TypeEq
import HandS.Iter
import HandS.RevRange
import HandS.Style
import PyProof.StrBlock2
import HandS.TryOnly
set_option Elab.async false
set_option linter.all false
set_option maxRecDepth 100000
set_option maxHeartbeats 1000000
namespace Rf
open PySem PySem.Spec PyProof.Rows L2

/-! ### values without a heap -/
/-- a value: immediate, a tuple of values, an object of the store (by its number), a list that never changes -/
inductive D where
  | non | bl (b : Bool) | int (i : Int) | str (x : Str) | ty (n : String) | tup (xs : List D) | ref (i : Nat) | fro (xs : List D)
inductive O where
  | lst (xs : List D)
  | dct (kvs : List (List Key × D))
abbrev Sto := List O
abbrev Env := List (Option D)
inductive R (α : Type) where
  | val (a : α) (S : Sto)
  | exc (c : Str) (S : Sto)

/-- a list of the written part, or one that stands apart from the store -/
def Fro (K : PySem.W.Frag) (φ : Nat → Addr) (n : Nat) (H : Hp) (a : Addr) (xs : List V) : Prop :=
  (L2.Rd H a (.lst xs) ∧ ∀ i, i < n → φ i ≠ a) ∨
    ∃ (o : Obj) (its : Array Value) (n : Nat), K.lookup a = some o ∧ o.cls = .type "list" ∧ o.dict = none ∧ o.data = .seq its n ∧ its.size ≤ sizeLine ∧ Vals xs its.toList
theorem Fro.sq {K : PySem.W.Frag} {φ : Nat → Addr} {n : Nat} {H : Hp} {a : Addr} {xs : List V} (h : Fro K φ n H a xs) : SqL K H a xs := h.elim (fun h => .inl h.1) .inr

mutual
inductive Rel (K : PySem.W.Frag) (φ : Nat → Addr) (n : Nat) (H : Hp) : V → D → Prop
  | non : Rel K φ n H .non .non
  | bl (b : Bool) : Rel K φ n H (.bl b) (.bl b)
  | int (i : Int) : Rel K φ n H (.int i) (.int i)
  | str (x : Str) : Rel K φ n H (.str x) (.str x)
  | ty (x : String) : Rel K φ n H (.ty x) (.ty x)
  | tup {a : Addr} {xs : List V} {ds : List D} : SqT K H a xs → Rels K φ n H xs ds → Rel K φ n H (.ref a) (.tup ds)
  | fro {a : Addr} {xs : List V} {ds : List D} : Fro K φ n H a xs → Rels K φ n H xs ds → Rel K φ n H (.ref a) (.fro ds)
  | ref {i : Nat} : i < n → Rel K φ n H (.ref (φ i)) (.ref i)
inductive Rels (K : PySem.W.Frag) (φ : Nat → Addr) (n : Nat) (H : Hp) : List V → List D → Prop
  | nil : Rels K φ n H [] []
  | cons {v : V} {vs : List V} {d : D} {ds : List D} : Rel K φ n H v d → Rels K φ n H vs ds → Rels K φ n H (v :: vs) (d :: ds)
end

/-- an object of the store -/
inductive RelO (K : PySem.W.Frag) (φ : Nat → Addr) (n : Nat) (H : Hp) : HO → O → Prop
  | lst {xs : List V} {ds : List D} : Rels K φ n H xs ds → RelO K φ n H (.lst xs) (.lst ds)
  | dct {ks : List (List Key × V)} {kvs : List (List Key × D)} : ks.map (·.1) = kvs.map (·.1) → Rels K φ n H (ks.map (·.2)) (kvs.map (·.2)) → RelO K φ n H (.dT ks) (.dct kvs)
structure Ok (K : PySem.W.Frag) (φ : Nat → Addr) (S : Sto) (H : Hp) : Prop where
  obj : ∀ i o, S[i]? = some o → ∃ ho, H (φ i) = some ho ∧ RelO K φ S.length H ho o
  inj : ∀ i j, i < S.length → j < S.length → φ i = φ j → i = j
/-- the store grows, its objects may change; all else that is tracked stands -/
structure Ext (φ : Nat → Addr) (n : Nat) (H : Hp) (φ' : Nat → Addr) (n' : Nat) (H' : Hp) : Prop where
  le : n ≤ n'
  same : ∀ i, i < n → φ' i = φ i
  keep : ∀ a o, H a = some o → (∀ i, i < n → φ i ≠ a) → H' a = some o
  new : ∀ i, n ≤ i → i < n' → H (φ' i) = none
  dom : ∀ a, H a ≠ none → H' a ≠ none
theorem Ext.refl (φ : Nat → Addr) (n : Nat) (H : Hp) : Ext φ n H φ n H := ⟨Nat.le_refl _, fun _ _ => rfl, fun _ _ h _ => h, fun i h1 h2 => absurd h2 (by omega), fun _ h => h⟩
theorem Ext.trans {φ φ1 φ2 : Nat → Addr} {n n1 n2 : Nat} {H H1 H2 : Hp} (a : Ext φ n H φ1 n1 H1) (b : Ext φ1 n1 H1 φ2 n2 H2) : Ext φ n H φ2 n2 H2 where
  le := Nat.le_trans a.le b.le
  same := fun i h => (b.same i (Nat.lt_of_lt_of_le h a.le)).trans (a.same i h)
  keep := fun x o h hn => b.keep x o (a.keep x o h hn) fun i hi z => by
    by_cases hlt : i < n
    · exact hn i hlt ((a.same i hlt).symm.trans z)
    · have := a.new i (by omega) hi
      rw [z, h] at this
      cases this
  new := fun i h1 h2 => by
    by_cases hlt : i < n1
    · rw [b.same i hlt]
      exact a.new i h1 hlt
    · have q := b.new i (by omega) h2
      cases e : H (φ2 i) with
      | none => rfl
      | some o => exact absurd q (a.dom _ (by rw [e]; simp))
  dom := fun x h => b.dom x (a.dom x h)

section
variable {K : PySem.W.Frag} {φ φ' : Nat → Addr} {S : Sto} {n' : Nat} {H H' : Hp}
theorem Ok.notup (k : Ok K φ S H) {a : Addr} {o : HO} (h : H a = some o) (ho : ∀ xs, o ≠ .lst xs) (hd : ∀ ks, o ≠ .dT ks) : ∀ i, i < S.length → φ i ≠ a := fun i hi z => by
  obtain ⟨ho', e, r⟩ := k.obj i S[i] (List.getElem?_eq_getElem hi)
  rw [z, h] at e
  cases e
  generalize S[i] = x at r
  cases r with
  | lst _ => exact ho _ rfl
  | dct _ _ => exact hd _ rfl
theorem Ok.rdT (k : Ok K φ S H) (e : Ext φ S.length H φ' n' H') {a : Addr} {xs : List V} (h : SqT K H a xs) : SqT K H' a xs := by
  rcases h with (h | ⟨o, h⟩) | h
  · exact .inl (.inl (e.keep _ _ h (k.notup h (fun _ z => nomatch z) fun _ z => nomatch z)))
  · exact .inl (.inr ⟨o, e.keep _ _ h (k.notup h (fun _ z => nomatch z) fun _ z => nomatch z)⟩)
  · exact .inr h
theorem Ok.rdF (k : Ok K φ S H) (e : Ext φ S.length H φ' n' H') {a : Addr} {xs : List V} (h : Fro K φ S.length H a xs) : Fro K φ' n' H' a xs := by
  rcases h with ⟨h, hn⟩ | h
  · have hs : H a ≠ none := by
      rcases h with h | ⟨o, h⟩ <;> rw [h] <;> simp
    refine .inl ⟨?_, fun i hi z => ?_⟩
    · rcases h with h | ⟨o, h⟩
      · exact .inl (e.keep _ _ h hn)
      · exact .inr ⟨o, e.keep _ _ h hn⟩
    · by_cases hlt : i < S.length
      · exact hn i hlt ((e.same i hlt).symm.trans z)
      · have q := e.new i (by omega) hi
        rw [z] at q
        exact hs q
  · exact .inr h
mutual
theorem Rel.mono (k : Ok K φ S H) (e : Ext φ S.length H φ' n' H') : ∀ {v : V} {d : D}, Rel K φ S.length H v d → Rel K φ' n' H' v d
  | _, _, .non => .non
  | _, _, .bl b => .bl b
  | _, _, .int i => .int i
  | _, _, .str x => .str x
  | _, _, .ty x => .ty x
  | _, _, .tup h r => .tup (k.rdT e h) (Rels.mono k e r)
  | _, _, .fro h r => .fro (k.rdF e h) (Rels.mono k e r)
  | _, _, .ref (i := i) h => by
    rw [← e.same i h]
    exact .ref (Nat.lt_of_lt_of_le h e.le)
theorem Rels.mono (k : Ok K φ S H) (e : Ext φ S.length H φ' n' H') : ∀ {v : List V} {d : List D}, Rels K φ S.length H v d → Rels K φ' n' H' v d
  | _, _, .nil => .nil
  | _, _, .cons r t => .cons (Rel.mono k e r) (Rels.mono k e t)
end
end

/-! ### relations of the slots -/
structure RelE (K : PySem.W.Frag) (φ : Nat → Addr) (n : Nat) (H : Hp) (ρ : Env) (σ : L2.St) : Prop where
  len : ρ.length = σ.length
  at_ : ∀ (i : Nat) (d : D), ρ[i]? = some (some d) → ∃ v, σ[i]? = some (some v) ∧ Rel K φ n H v d
theorem RelE.mono {K : PySem.W.Frag} {φ φ' : Nat → Addr} {S : Sto} {n' : Nat} {H H' : Hp} {ρ : Env} {σ : L2.St} (k : Ok K φ S H) (e : Ext φ S.length H φ' n' H') (r : RelE K φ S.length H ρ σ) : RelE K φ' n' H' ρ σ :=
  ⟨r.len, fun i d h => by obtain ⟨v, q, z⟩ := r.at_ i d h; exact ⟨v, q, z.mono k e⟩⟩
theorem RelE.set {K : PySem.W.Frag} {φ : Nat → Addr} {n : Nat} {H : Hp} {ρ : Env} {σ : L2.St} (r : RelE K φ n H ρ σ) (i : Nat) {v : V} {d : D} (h : Rel K φ n H v d) : RelE K φ n H (ρ.set i (some d)) (σ.set i (some v)) := by
  refine ⟨by simp [r.len], fun j e hj => ?_⟩
  by_cases c : i = j
  · subst c
    by_cases hl : i < ρ.length
    · rw [List.getElem?_set_self hl] at hj
      cases hj
      exact ⟨v, List.getElem?_set_self (by rw [← r.len]; exact hl), h⟩
    · rw [List.getElem?_eq_none (by simp; omega)] at hj
      cases hj
  · rw [List.getElem?_set_ne c] at hj
    obtain ⟨w, q, z⟩ := r.at_ j e hj
    exact ⟨w, by rw [List.getElem?_set_ne c]; exact q, z⟩
theorem RelE.unset {K : PySem.W.Frag} {φ : Nat → Addr} {n : Nat} {H : Hp} {ρ : Env} {σ : L2.St} (r : RelE K φ n H ρ σ) (i : Nat) {v : Option V} : RelE K φ n H (ρ.set i none) (σ.set i v) := by
  refine ⟨by simp [r.len], fun j e hj => ?_⟩
  by_cases c : i = j
  · subst c
    by_cases hl : i < ρ.length
    · rw [List.getElem?_set_self hl] at hj
      cases hj
    · rw [List.getElem?_eq_none (by simp; omega)] at hj
      cases hj
  · rw [List.getElem?_set_ne c] at hj
    obtain ⟨w, q, z⟩ := r.at_ j e hj
    exact ⟨w, by rw [List.getElem?_set_ne c]; exact q, z⟩

/-! ### readings -/
abbrev RelT (β α : Type) := (Nat → Addr) → Nat → Hp → β → α → Prop
class Mono (K : PySem.W.Frag) {β α : Type} (rel : RelT β α) : Prop where
  mono : ∀ {φ : Nat → Addr} {S : Sto} {H : Hp} {φ' : Nat → Addr} {n' : Nat} {H' : Hp} {b : β} {a : α}, Ok K φ S H → Ext φ S.length H φ' n' H' → rel φ S.length H b a → rel φ' n' H' b a
instance {K : PySem.W.Frag} : Mono K (Rel K) := ⟨fun k e r => r.mono k e⟩
instance {K : PySem.W.Frag} : Mono K (Rels K) := ⟨fun k e r => r.mono k e⟩
def RelB {α : Type} : RelT α α := fun _ _ _ b a => b = a
instance {K : PySem.W.Frag} {α : Type} : Mono K (RelB (α := α)) := ⟨fun _ _ r => r⟩

variable (K : PySem.W.Frag) (ec : Str → Value)
section
variable {α β γ δ : Type}
def KV (rel : RelT β α) (W : WX) (φ : Nat → Addr) (n : Nat) (σ : L2.St) (H : Hp) (Q : β → Hp → Prop) : R α → Prop
  | .val a S' => ∀ φ' H' b, Ext φ n H φ' S'.length H' → Ok K φ' S' H' → rel φ' S'.length H' b a → Q b H'
  | .exc c S' => ∀ φ' H', Ext φ n H φ' S'.length H' → Ok K φ' S' H' → W (ec c) none σ H'
variable {K ec}
theorem KV.ext {rel : RelT β α} {W : WX} {φ φ1 : Nat → Addr} {n n1 : Nat} {σ : L2.St} {H H1 : Hp} {Q : β → Hp → Prop} {r : R α} (e : Ext φ n H φ1 n1 H1) (h : KV K ec rel W φ n σ H Q r) : KV K ec rel W φ1 n1 σ H1 Q r := by
  cases r with
  | val a S' => exact fun φ' H' b e' => h φ' H' b (e.trans e')
  | exc c S' => exact fun φ' H' e' => h φ' H' (e.trans e')
theorem KV.imp {rel : RelT β α} {W : WX} {φ : Nat → Addr} {n : Nat} {σ : L2.St} {H : Hp} {Q Q' : β → Hp → Prop} {r : R α} (hq : ∀ b H, Q b H → Q' b H) (h : KV K ec rel W φ n σ H Q r) : KV K ec rel W φ n σ H Q' r := by
  cases r with
  | val a S' => exact fun φ' H' b e o r => hq _ _ (h φ' H' b e o r)
  | exc c S' => exact h
abbrev M (α : Type) := Env → Sto → Option (R α)
def mB (m : M γ) (k : γ → M α) : M α := fun ρ S => match m ρ S with
  | none => none
  | some (.exc c S1) => some (.exc c S1)
  | some (.val a S1) => k a ρ S1
def mRet (a : α) : M α := fun _ S => some (.val a S)
variable (K ec)
/-- a reading by m -/
def rd (rel : RelT β α) (W : WX) (m : M α) : L2.St → Hp → (β → Hp → Prop) → Prop := fun σ H Q =>
  ∃ (φ : Nat → Addr) (S : Sto) (ρ : Env), Ok K φ S H ∧ RelE K φ S.length H ρ σ ∧ ∃ r, m ρ S = some r ∧ KV K ec rel W φ S.length σ H Q r
variable {K ec}
/-- the state between two evaluations: C is what is carried -/
structure Cf (K : PySem.W.Frag) (ec : Str → Value) (rel : RelT β α) (W : WX) (C : (Nat → Addr) → Nat → Hp → Prop) (φ : Nat → Addr) (S : Sto) (ρ : Env) (σ : L2.St) (H : Hp) (Q : β → Hp → Prop) (k : Sto → Option (R α)) : Prop where
  ok : Ok K φ S H
  env : RelE K φ S.length H ρ σ
  car : C φ S.length H
  run : ∃ r, k S = some r ∧ KV K ec rel W φ S.length σ H Q r
def MonoC (K : PySem.W.Frag) (C : (Nat → Addr) → Nat → Hp → Prop) : Prop := ∀ (φ : Nat → Addr) (S : Sto) (H : Hp) (φ' : Nat → Addr) (n' : Nat) (H' : Hp), Ok K φ S H → Ext φ S.length H φ' n' H' → C φ S.length H → C φ' n' H'
theorem monoC_true : MonoC K fun _ _ _ => True := fun _ _ _ _ _ _ _ _ _ => trivial
theorem monoC_rel {rel : RelT β α} [Mono K rel] {b : β} {a : α} : MonoC K fun φ n H => rel φ n H b a := fun _ _ _ _ _ _ k e r => Mono.mono k e r
theorem monoC_and {C C' : (Nat → Addr) → Nat → Hp → Prop} (h : MonoC K C) (h' : MonoC K C') : MonoC K fun φ n H => C φ n H ∧ C' φ n H := fun φ S H φ' n' H' k e r => ⟨h _ _ _ _ _ _ k e r.1, h' _ _ _ _ _ _ k e r.2⟩
/-- one evaluation ahead -/
theorem Cf.bind {rel : RelT β α} {rel1 : RelT δ γ} {W : WX} {C : (Nat → Addr) → Nat → Hp → Prop} (hC : MonoC K C) {φ : Nat → Addr} {S : Sto} {ρ : Env} {σ : L2.St} {H : Hp} {Q : β → Hp → Prop} {m : M γ} {k : γ → M α} (c : Cf K ec rel W C φ S ρ σ H Q (mB m k ρ)) :
    rd K ec rel1 W m σ H fun x H1 => ∃ (φ1 : Nat → Addr) (S1 : Sto) (a : γ), rel1 φ1 S1.length H1 x a ∧ Cf K ec rel W C φ1 S1 ρ σ H1 Q (k a ρ) := by
  obtain ⟨r, e, q⟩ := c.run
  unfold mB at e
  split at e
  · cases e
  · rename_i c1 S1 e1
    cases e
    exact ⟨φ, S, ρ, c.ok, c.env, _, e1, q⟩
  · rename_i a S1 e1
    refine ⟨φ, S, ρ, c.ok, c.env, _, e1, fun φ' H' b ex ok r1 => ⟨φ', S1, a, r1, ok, c.env.mono c.ok ex, hC _ _ _ _ _ _ c.ok ex c.car, r, e, q.ext ex⟩⟩
theorem Cf.start {rel : RelT β α} {W : WX} {σ : L2.St} {H : Hp} {Q : β → Hp → Prop} {m : M α} (h : rd K ec rel W m σ H Q) : ∃ (φ : Nat → Addr) (S : Sto) (ρ : Env), Cf K ec rel W (fun _ _ _ => True) φ S ρ σ H Q (m ρ) := by
  obtain ⟨φ, S, ρ, ok, env, r, e, q⟩ := h
  exact ⟨φ, S, ρ, ok, env, trivial, r, e, q⟩
theorem Cf.carry {rel : RelT β α} {W : WX} {C C' : (Nat → Addr) → Nat → Hp → Prop} {φ : Nat → Addr} {S : Sto} {ρ : Env} {σ : L2.St} {H : Hp} {Q : β → Hp → Prop} {k : Sto → Option (R α)} (c : Cf K ec rel W C φ S ρ σ H Q k) (h : C' φ S.length H) : Cf K ec rel W C' φ S ρ σ H Q k := ⟨c.ok, c.env, h, c.run⟩
/-- the end of an evaluation -/
theorem Cf.done {rel : RelT β α} {W : WX} {C : (Nat → Addr) → Nat → Hp → Prop} {φ : Nat → Addr} {S S' : Sto} {ρ : Env} {σ : L2.St} {H : Hp} {Q : β → Hp → Prop} {k : Sto → Option (R α)} {a : α} {b : β} (c : Cf K ec rel W C φ S ρ σ H Q k)
    (hk : k S = some (.val a S')) {φ' : Nat → Addr} {H' : Hp} (ex : Ext φ S.length H φ' S'.length H') (ok : Ok K φ' S' H') (hr : rel φ' S'.length H' b a) : Q b H' := by
  obtain ⟨r, e, q⟩ := c.run
  rw [hk] at e
  cases e
  exact q φ' H' b ex ok hr
theorem Cf.ret {rel : RelT β α} {W : WX} {C : (Nat → Addr) → Nat → Hp → Prop} {φ : Nat → Addr} {S : Sto} {ρ : Env} {σ : L2.St} {H : Hp} {Q : β → Hp → Prop} {k : Sto → Option (R α)} {a : α} {b : β} (c : Cf K ec rel W C φ S ρ σ H Q k)
    (hk : k S = some (.val a S)) (hr : rel φ S.length H b a) : Q b H := c.done hk (Ext.refl _ _ _) c.ok hr
end

/-! a new object -/
section
variable {K : PySem.W.Frag} {φ : Nat → Addr} {S : Sto} {H : Hp}
theorem ext_imm {p : Addr} {ho : HO} (hp : H p = none) : Ext φ S.length H φ S.length (upd H p ho) := by
  refine ⟨Nat.le_refl _, fun _ _ => rfl, fun a o h _ => ?_, fun i h1 h2 => absurd h2 (by omega), fun a h => ?_⟩
  · rw [upd_ne (ne_of_none h hp)]; exact h
  · by_cases c : a = p
    · rw [c, upd_same]; simp
    · rw [upd_ne c]; exact h
theorem RelO.mono {φ' : Nat → Addr} {n' : Nat} {H' : Hp} (k : Ok K φ S H) (e : Ext φ S.length H φ' n' H') {ho : HO} {o : O} (r : RelO K φ S.length H ho o) : RelO K φ' n' H' ho o := by
  cases r with
  | lst r => exact .lst (r.mono k e)
  | dct h r => exact .dct h (r.mono k e)
/-- a tuple or the like is laid -/
theorem Ok.imm (k : Ok K φ S H) {p : Addr} {ho : HO} (hp : H p = none) : Ok K φ S (upd H p ho) := by
  have ex : Ext φ S.length H φ S.length (upd H p ho) := ext_imm hp
  refine ⟨fun i o h => ?_, k.inj⟩
  obtain ⟨h1, e, r⟩ := k.obj i o h
  exact ⟨h1, by rw [upd_ne (ne_of_none e hp)]; exact e, r.mono k ex⟩
/-- where the new object stands -/
def nxt (φ : Nat → Addr) (n : Nat) (p : Addr) : Nat → Addr := fun i => if i = n then p else φ i
theorem nxt_old {n i : Nat} {p : Addr} (h : i < n) : nxt φ n p i = φ i := by unfold nxt; rw [if_neg (by omega)]
theorem nxt_new {n : Nat} {p : Addr} : nxt φ n p n = p := by unfold nxt; rw [if_pos rfl]
theorem ext_new {p : Addr} {ho : HO} (hp : H p = none) : Ext φ S.length H (nxt φ S.length p) (S.length + 1) (upd H p ho) := by
  refine ⟨Nat.le_succ _, fun i h => nxt_old h, fun a o h _ => ?_, fun i h1 h2 => ?_, fun a h => ?_⟩
  · rw [upd_ne (ne_of_none h hp)]; exact h
  · obtain rfl : i = S.length := by omega
    rw [nxt_new]; exact hp
  · by_cases c : a = p
    · rw [c, upd_same]; simp
    · rw [upd_ne c]; exact h
theorem Ok.new (k : Ok K φ S H) {p : Addr} {ho : HO} {o : O} (hp : H p = none) (r : RelO K φ S.length H ho o) : Ok K (nxt φ S.length p) (S ++ [o]) (upd H p ho) := by
  have ex : Ext φ S.length H (nxt φ S.length p) (S.length + 1) (upd H p ho) := ext_new hp
  have hne : ∀ i, i < S.length → φ i ≠ p := fun i hi z => by
    obtain ⟨h1, e, _⟩ := k.obj i S[i] (List.getElem?_eq_getElem hi)
    rw [z, hp] at e
    cases e
  refine ⟨fun i o' h => ?_, fun i j hi hj z => ?_⟩
  · rw [List.length_append, List.length_singleton]
    by_cases hi : i < S.length
    · rw [List.getElem?_append_left hi] at h
      obtain ⟨h1, e, r1⟩ := k.obj i o' h
      exact ⟨h1, by rw [nxt_old hi, upd_ne (ne_of_none e hp)]; exact e, r1.mono k ex⟩
    · have hl : i < (S ++ [o]).length := by
        by_cases c : i < (S ++ [o]).length
        · exact c
        · rw [List.getElem?_eq_none (by omega)] at h; cases h
      rw [List.length_append, List.length_singleton] at hl
      obtain rfl : i = S.length := by omega
      rw [List.getElem?_append_right (Nat.le_refl _), Nat.sub_self] at h
      cases h
      exact ⟨ho, by rw [nxt_new]; exact upd_same, r.mono k ex⟩
  · rw [List.length_append, List.length_singleton] at hi hj
    by_cases h1 : i < S.length
    · by_cases h2 : j < S.length
      · rw [nxt_old h1, nxt_old h2] at z
        exact k.inj i j h1 h2 z
      · obtain rfl : j = S.length := by omega
        rw [nxt_old h1, nxt_new] at z
        exact absurd z (hne i h1)
    · obtain rfl : i = S.length := by omega
      by_cases h2 : j < S.length
      · rw [nxt_old h2, nxt_new] at z
        exact absurd z.symm (hne j h2)
      · omega
/-- an object of the store changes -/
theorem Ok.ne (k : Ok K φ S H) {i j : Nat} (hi : i < S.length) (hj : j < S.length) (h : i ≠ j) : φ i ≠ φ j := fun z => h (k.inj i j hi hj z)
theorem ext_put (k : Ok K φ S H) {i : Nat} {ho : HO} (hi : i < S.length) : Ext φ S.length H φ S.length (upd H (φ i) ho) := by
  refine ⟨Nat.le_refl _, fun _ _ => rfl, fun a o h hn => ?_, fun i h1 h2 => absurd h2 (by omega), fun a h => ?_⟩
  · rw [upd_ne (fun z => hn i hi z.symm)]; exact h
  · by_cases c : a = φ i
    · rw [c, upd_same]; simp
    · rw [upd_ne c]; exact h
theorem Ok.put (k : Ok K φ S H) {i : Nat} {ho : HO} {o : O} (hi : i < S.length) (r : RelO K φ S.length H ho o) : Ok K φ (S.set i o) (upd H (φ i) ho) := by
  have ex : Ext φ S.length H φ S.length (upd H (φ i) ho) := ext_put k hi
  refine ⟨fun j o' h => ?_, fun a b ha hb z => k.inj a b (by simpa using ha) (by simpa using hb) z⟩
  rw [List.length_set]
  by_cases c : i = j
  · subst c
    rw [List.getElem?_set_self hi] at h
    cases h
    exact ⟨ho, upd_same, r.mono k ex⟩
  · rw [List.getElem?_set_ne c] at h
    have hj : j < S.length := by
      by_cases q : j < S.length
      · exact q
      · rw [List.getElem?_eq_none (by omega)] at h; cases h
    obtain ⟨h1, e, r1⟩ := k.obj j o' h
    exact ⟨h1, by rw [upd_ne (k.ne hj hi (Ne.symm c))]; exact e, r1.mono k ex⟩
end
end Rf
namespace Rf
open PySem PySem.Spec PyProof.Rows L2

variable {X : Cx} {ec : Str → Value} {W : WX}
def XE (X : Cx) (ec : Str → Value) (W : WX) (e : Expr) (m : M D) : Prop := PE X e (rd X.K ec (Rel X.K) W m)
def XT (X : Cx) (ec : Str → Value) (W : WX) (e : Expr) (m : M Bool) : Prop := PT X e (rd X.K ec RelB W m)
def XA (X : Cx) (ec : Str → Value) (W : WX) (es : List Expr) (m : M (List D)) : Prop := PA X es (rd X.K ec (Rels X.K) W m)

theorem imE {e : Expr} {t t' : TE} (h : PE X e t) (i : ∀ σ H Q, t' σ H Q → t σ H Q) : PE X e t' := ⟨fun pins s σ H Q I q => h.run pins s σ H Q I (i σ H Q q)⟩
theorem imT {e : Expr} {t t' : TT} (h : PT X e t) (i : ∀ σ H Q, t' σ H Q → t σ H Q) : PT X e t' := ⟨fun pins s σ H Q I q => h.run pins s σ H Q I (i σ H Q q)⟩
theorem imA {e : List Expr} {t t' : TA} (h : PA X e t) (i : ∀ σ H Q, t' σ H Q → t σ H Q) : PA X e t' := ⟨fun pos pins s σ H Q I q => h.run pos pins s σ H Q I (i σ H Q q)⟩
theorem orE {e : Expr} {t t' : TE} (h : PE X e t) (h' : PE X e t') : PE X e (fun σ H Q => t σ H Q ∨ t' σ H Q) := ⟨fun pins s σ H Q I q => q.elim (h.run pins s σ H Q I) (h'.run pins s σ H Q I)⟩
theorem rd_imp {K : PySem.W.Frag} {α β : Type} {rel : RelT β α} {m : M α} {σ : L2.St} {H : Hp} {Q Q' : β → Hp → Prop} (h : rd K ec rel W m σ H Q) (hq : ∀ b H, Q b H → Q' b H) : rd K ec rel W m σ H Q' := by
  obtain ⟨φ, S, ρ, ok, env, r, e, q⟩ := h
  exact ⟨φ, S, ρ, ok, env, r, e, q.imp hq⟩

/-! ### names, constants -/
def mVar (i : Nat) : M D := fun ρ S => match ρ[i]? with
  | some (some d) => some (.val d S)
  | _ => none
theorem x_var (i : Nat) {x : Str} {pos : Pos} (hN : X.N[i]? = some x := by rfl) (hv : Vis X.env.scope x := by first | exact Or.inl rfl | exact Or.inr (Or.inl rfl) | exact Or.inr (Or.inr rfl)) (hd : (x == ("__debug__" : Str)) = false := by decide)
    (hcd : (x == ("__classdict__" : Str)) = false := by decide) : XE X ec W (.Name x pos) (mVar i) := imE (pe_var hN hv hd hcd) fun σ H Q h => by
  obtain ⟨φ, S, ρ, ok, env, r, e, q⟩ := h
  unfold mVar at e
  split at e
  · rename_i d hd
    cases e
    obtain ⟨v, hv, rv⟩ := env.at_ i d hd
    exact ⟨v, hv, q φ H v (Ext.refl _ _ _) ok rv⟩
  · cases e
theorem rd_ret {K : PySem.W.Frag} {α β : Type} {rel : RelT β α} {a : α} {b : β} (hr : ∀ φ n H, rel φ n H b a) {σ : L2.St} {H : Hp} {Q : β → Hp → Prop} (h : rd K ec rel W (mRet a) σ H Q) : Q b H := by
  obtain ⟨φ, S, ρ, ok, env, r, e, q⟩ := h
  cases e
  exact q φ H b (Ext.refl _ _ _) ok (hr _ _ _)
theorem x_int {i : Int} {j} {pos : Pos} : XE X ec W (.Constant (.int i) j pos) (mRet (.int i)) := imE pe_int fun _ _ _ h => rd_ret (fun _ _ _ => .int i) h
theorem x_bl {b : Bool} {j} {pos : Pos} : XE X ec W (.Constant (.bool b) j pos) (mRet (.bl b)) := imE pe_bl fun _ _ _ h => rd_ret (fun _ _ _ => .bl b) h
theorem x_non {j} {pos : Pos} : XE X ec W (.Constant .none j pos) (mRet .non) := imE pe_non fun _ _ _ h => rd_ret (fun _ _ _ => .non) h
theorem x_str {x : Str} {j} {pos : Pos} : XE X ec W (.Constant (.str x) j pos) (mRet (.str x)) := imE pe_str fun _ _ _ h => rd_ret (fun _ _ _ => .str x) h
/-- a built-in class as a value -/
theorem x_ty {x : Str} {n : String} {pos : Pos} (hm : X.mg x = none) (hv : bootBuiltins x = some (.type n)) (hg : Gl X x := by rfl) (hn : x ≠ "__name__" := by decide) (hd : (x == ("__debug__" : Str)) = false := by decide) : XE X ec W (.Name x pos) (mRet (.ty n)) :=
  imE (pe_bltn (v := .ty n) (u := .type n) hg hm hv rfl hn hd) fun _ _ _ h => rd_ret (fun _ _ _ => .ty n) h
/-- a constant of the module -/
theorem x_glob {x : Str} {v : V} {d : D} {u : Value} {pos : Pos} (hm : X.mg x = some u) (r : RelV v u) (hr : ∀ φ n H, Rel X.K φ n H v d) (hg : Gl X x := by rfl) (hd : (x == ("__debug__" : Str)) = false := by decide) : XE X ec W (.Name x pos) (mRet d) :=
  imE (pe_glob hg hm r hd) fun _ _ _ h => rd_ret hr h

/-! ### operators -/
abbrev G2 := D → D → Sto → Option (D × Sto)
def OpS (X : Cx) (f : Value → Value → Sem Value) (g : G2) : Prop := ∃ r : R2, OpR X f r ∧ ∀ (φ : Nat → Addr) (S : Sto) (H : Hp) (x y : V) (a b c : D) (S' : Sto), Ok X.K φ S H → Rel X.K φ S.length H x a → Rel X.K φ S.length H y b → g a b S = some (c, S') →
  ∀ Q : VK, (∀ φ' H' v, Ext φ S.length H φ' S'.length H' → Ok X.K φ' S' H' → Rel X.K φ' S'.length H' v c → Q v H') → r x y H Q
def mOp (g : G2) (ma mb : M D) : M D := mB ma fun a => mB mb fun b _ S => match g a b S with
  | some (c, S') => some (.val c S')
  | none => none
theorem rd_op {f : Value → Value → Sem Value} {g : G2} {ma mb : M D} {σ : L2.St} {H : Hp} {Q : VK} {r : R2} (hr : ∀ (φ : Nat → Addr) (S : Sto) (H : Hp) (x y : V) (a b c : D) (S' : Sto), Ok X.K φ S H → Rel X.K φ S.length H x a → Rel X.K φ S.length H y b → g a b S = some (c, S') →
  ∀ Q : VK, (∀ φ' H' v, Ext φ S.length H φ' S'.length H' → Ok X.K φ' S' H' → Rel X.K φ' S'.length H' v c → Q v H') → r x y H Q) (h : rd X.K ec (Rel X.K) W (mOp g ma mb) σ H Q) : tOp r (rd X.K ec (Rel X.K) W ma) (rd X.K ec (Rel X.K) W mb) σ H Q := by
  obtain ⟨φ, S, ρ, c⟩ := Cf.start h
  refine rd_imp (c.bind (rel1 := Rel X.K) monoC_true) fun x H1 ⟨φ1, S1, a, ra, c1⟩ => ?_
  refine rd_imp ((c1.carry ra).bind (rel1 := Rel X.K) monoC_rel) fun y H2 ⟨φ2, S2, b, rb, c2⟩ => ?_
  obtain ⟨r', e, q⟩ := c2.run
  cases hg : g a b S2 with
  | none => rw [hg] at e; cases e
  | some p =>
    obtain ⟨z, S'⟩ := p
    rw [hg] at e
    cases e
    exact hr φ2 S2 H2 x y a b z S' c2.ok c2.car rb hg Q q
theorem x_bin {op : Operator} {g : G2} {a b : Expr} {ma mb : M D} {pos : Pos} (ho : OpS X (binaryOp op) g) (ha : XE X ec W a ma) (hb : XE X ec W b mb) : XE X ec W (.BinOp a op b pos) (mOp g ma mb) := by
  obtain ⟨r, hr, i⟩ := ho
  exact imE (pe_op hr ha hb) fun σ H Q h => rd_op (f := binaryOp op) i h
theorem x_cmp {op : CmpOp} {g : G2} {a b : Expr} {ma mb : M D} {pos : Pos} (ho : OpS X (compareOp op) g) (ha : XE X ec W a ma) (hb : XE X ec W b mb) (hm : behindInMarks op b = false := by first | exact nomark _ | rfl) : XE X ec W (.Compare a [op] [b] pos) (mOp g ma mb) := by
  obtain ⟨r, hr, i⟩ := ho
  exact imE (pe_cmpR hr ha hb hm) fun σ H Q h => rd_op (f := compareOp op) i h
theorem OpS.or {f : Value → Value → Sem Value} {g g' : G2} (h : OpS X f g) (h' : OpS X f g') : OpS X f (fun a b S => match g a b S with | some z => some z | none => g' a b S) := by
  obtain ⟨r, hr, i⟩ := h
  obtain ⟨r', hr', i'⟩ := h'
  refine ⟨_, OpR.or hr hr', fun φ S H x y a b c S' ok ra rb e Q q => ?_⟩
  dsimp only at e
  cases e1 : g a b S with
  | some z =>
    rw [e1] at e
    cases e
    exact .inl (i φ S H x y a b c S' ok ra rb e1 Q q)
  | none =>
    rw [e1] at e
    exact .inr (i' φ S H x y a b c S' ok ra rb e Q q)
/-- another name for the same -/
theorem OpS.to {f : Value → Value → Sem Value} {g g' : G2} (h : OpS X f g) (e : ∀ a b S, g' a b S = g a b S) : OpS X f g' := by
  obtain ⟨r, hr, i⟩ := h
  exact ⟨r, hr, fun φ S H x y a b c S' ok ra rb e1 Q q => i φ S H x y a b c S' ok ra rb (by rw [← e]; exact e1) Q q⟩

/-- ints to a value -/
def gI (C : Int → Int → Bool) (g : Int → Int → D) : G2 := fun a b S => match a, b with
  | .int i, .int j => if C i j then some (g i j, S) else none
  | _, _ => none
theorem opS_I {f : Value → Value → Sem Value} {C : Int → Int → Prop} {c : Int → Int → Bool} {g : Int → Int → V} {g' : Int → Int → D} (ho : OpR X f (rI C g)) (hc : ∀ i j, c i j = true → C i j) (hg : ∀ i j φ n H, Rel X.K φ n H (g i j) (g' i j)) : OpS X f (gI c g') := by
  refine ⟨_, ho, fun φ S H x y a b d S' ok ra rb e Q q => ?_⟩
  unfold gI at e
  split at e
  · split at e
    · rename_i i j h
      cases e
      cases ra
      cases rb
      exact ⟨i, j, rfl, rfl, hc _ _ h, q φ H _ (Ext.refl _ _ _) ok (hg _ _ _ _ _)⟩
    · cases e
  · cases e
theorem opS_I0 {f : Value → Value → Sem Value} {g : Int → Int → V} {g' : Int → Int → D} (ho : OpR X f (rI0 g)) (hg : ∀ i j φ n H, Rel X.K φ n H (g i j) (g' i j)) : OpS X f (gI (fun _ _ => true) g') := by
  refine ⟨_, ho, fun φ S H x y a b d S' ok ra rb e Q q => ?_⟩
  unfold gI at e
  split at e
  · cases e
    cases ra
    cases rb
    exact ⟨_, _, rfl, rfl, q φ H _ (Ext.refl _ _ _) ok (hg _ _ _ _ _)⟩
  · cases e
/-- texts -/
def gS (C : Str → Str → Bool) (g : Str → Str → D) : G2 := fun a b S => match a, b with
  | .str i, .str j => if C i j then some (g i j, S) else none
  | _, _ => none
theorem opS_add_str : OpS X (binaryOp .Add) (gS (fun i j => decide (i.length + j.length ≤ 1000000)) fun i j => .str (i ++ j)) := by
  refine ⟨_, op_add_str, fun φ S H x y a b d S' ok ra rb e Q q => ?_⟩
  unfold gS at e
  split at e
  · split at e
    · rename_i i j h
      cases e
      cases ra
      cases rb
      exact ⟨i, j, rfl, rfl, Nat.le_trans (of_decide_eq_true h) (by decide), q φ H _ (Ext.refl _ _ _) ok (.str _)⟩
    · cases e
  · cases e
theorem Rels.len {K : PySem.W.Frag} {φ : Nat → Addr} {n : Nat} {H : Hp} : ∀ {xs : List V} {ds : List D}, Rels K φ n H xs ds → xs.length = ds.length
  | _, _, .nil => rfl
  | _, _, .cons _ t => by rw [List.length_cons, List.length_cons, Rels.len t]
theorem Rels.app {K : PySem.W.Frag} {φ : Nat → Addr} {n : Nat} {H : Hp} : ∀ {xs ys : List V} {ds es : List D}, Rels K φ n H xs ds → Rels K φ n H ys es → Rels K φ n H (xs ++ ys) (ds ++ es)
  | _, _, _, _, .nil, s => s
  | _, _, _, _, .cons r t, s => .cons r (Rels.app t s)
theorem Rels.get {K : PySem.W.Frag} {φ : Nat → Addr} {n : Nat} {H : Hp} : ∀ {xs : List V} {ds : List D} (i : Nat) {d : D}, Rels K φ n H xs ds → ds[i]? = some d → ∃ v, xs[i]? = some v ∧ Rel K φ n H v d
  | _, _, _, _, .nil, e => by simp at e
  | _, _, 0, _, .cons r _, e => by simp at e; subst e; exact ⟨_, rfl, r⟩
  | _, _, i + 1, _, .cons _ t, e => by
    obtain ⟨v, h, r⟩ := Rels.get i t (by simpa using e)
    exact ⟨v, by simpa using h, r⟩
theorem Rels.drop {K : PySem.W.Frag} {φ : Nat → Addr} {n : Nat} {H : Hp} : ∀ {xs : List V} {ds : List D} (i : Nat), Rels K φ n H xs ds → Rels K φ n H (xs.drop i) (ds.drop i)
  | _, _, 0, r => r
  | _, _, _ + 1, .nil => .nil
  | _, _, i + 1, .cons _ t => Rels.drop i t
theorem Rels.take {K : PySem.W.Frag} {φ : Nat → Addr} {n : Nat} {H : Hp} : ∀ {xs : List V} {ds : List D} (i : Nat), Rels K φ n H xs ds → Rels K φ n H (xs.take i) (ds.take i)
  | _, _, 0, _ => .nil
  | _, _, _ + 1, .nil => .nil
  | _, _, i + 1, .cons r t => .cons r (Rels.take i t)
theorem Rels.rev {K : PySem.W.Frag} {φ : Nat → Addr} {n : Nat} {H : Hp} : ∀ {xs : List V} {ds : List D}, Rels K φ n H xs ds → Rels K φ n H xs.reverse ds.reverse
  | _, _, .nil => .nil
  | _, _, .cons r t => by
    rw [List.reverse_cons, List.reverse_cons]
    exact (Rels.rev t).app (.cons r .nil)
theorem Rels.nil_iff {K : PySem.W.Frag} {φ : Nat → Addr} {n : Nat} {H : Hp} {xs : List V} {ds : List D} (r : Rels K φ n H xs ds) : xs = [] ↔ ds = [] := by
  cases r <;> simp
def gT (C : List D → List D → Bool) (g : List D → List D → D) : G2 := fun a b S => match a, b with
  | .tup xs, .tup ys => if C xs ys then some (g xs ys, S) else none
  | _, _ => none
theorem szl {n : Nat} (h : n ≤ 1000000) : n ≤ sizeLine := Nat.le_trans h (by decide)
theorem opS_cat_tup : OpS X (binaryOp .Add) (gT (fun xs ys => decide (xs.length + ys.length ≤ 1000000)) fun xs ys => .tup (xs ++ ys)) := by
  refine ⟨_, op_catA, fun φ S H x y a b d S' ok ra rb e Q q => ?_⟩
  unfold gT at e
  split at e
  · split at e
    · rename_i xs ys h
      cases e
      cases ra with
      | tup h1 r1 =>
        cases rb with
        | tup h2 r2 =>
          refine ⟨_, _, _, _, rfl, rfl, h1, h2, ?_, fun z => ?_, fun z z2 => ?_, fun z z2 p hp => ?_⟩
          · rw [r1.len, r2.len]; exact szl (of_decide_eq_true h)
          · have e0 := r1.nil_iff.mp z
            subst e0
            exact q φ H _ (Ext.refl _ _ _) ok (.tup h2 r2)
          · have e0 := r2.nil_iff.mp z2
            subst e0
            refine q φ H _ (Ext.refl _ _ _) ok (.tup h1 ?_)
            rw [List.append_nil]; exact r1
          · exact q φ _ _ (ext_imm hp) (ok.imm hp) (.tup (SqT.of upd_same) ((r1.app r2).mono ok (ext_imm hp)))
    · cases e
  · cases e
/-- two lists joined into a new one -/
def gCat : G2 := fun a b S => match a, b with
  | .ref i, .ref j => match S[i]?, S[j]? with
    | some (.lst xs), some (.lst ys) => if xs.length + ys.length ≤ 1000000 then some (.ref S.length, S ++ [.lst (xs ++ ys)]) else none
    | _, _ => none
  | _, _ => none
theorem Ok.lst {K : PySem.W.Frag} {φ : Nat → Addr} {S : Sto} {H : Hp} (ok : Ok K φ S H) {i : Nat} {ds : List D} (h : S[i]? = some (.lst ds)) : ∃ xs, H (φ i) = some (.lst xs) ∧ Rels K φ S.length H xs ds := by
  obtain ⟨ho, e, r⟩ := ok.obj i _ h
  cases r with
  | lst r => exact ⟨_, e, r⟩
theorem opS_cat_lst : OpS X (binaryOp .Add) gCat := by
  refine ⟨_, op_cat, fun φ S H x y a b d S' ok ra rb e Q q => ?_⟩
  unfold gCat at e
  split at e
  · split at e
    · split at e
      · rename_i i j xs ys hi hj h
        cases e
        cases ra
        cases rb
        obtain ⟨us, h1, r1⟩ := ok.lst hi
        obtain ⟨ws, h2, r2⟩ := ok.lst hj
        refine ⟨_, _, us, ws, rfl, rfl, h1, h2, by rw [r1.len, r2.len]; exact szl h, fun p hp => ?_⟩
        have ex := ext_new (S := S) (φ := φ) (H := H) (ho := .lst (us ++ ws)) hp
        refine q (nxt φ S.length p) _ _ (by rw [List.length_append, List.length_singleton]; exact ex) (ok.new hp (.lst (r1.app r2))) ?_
        rw [List.length_append, List.length_singleton]
        have := @Rel.ref X.K (nxt φ S.length p) (S.length + 1) (upd H p (.lst (us ++ ws))) S.length (Nat.lt_succ_self _)
        rw [nxt_new] at this
        exact this
      · cases e
    · cases e
  · cases e

/-! the operators -/
def mulOk (i j : Int) : Bool := decide (i.natAbs < 2 ^ 63) || decide (j.natAbs < 2 ^ 63) || decide (i.natAbs.log2 + j.natAbs.log2 < 1000000)
def CMulA (i j : Int) : Prop := CMul i j ∨ CMulW i j
theorem op_mulA : OpR X (binaryOp .Mult) (rI CMulA fun i j => .int (i * j)) := opI fun _ _ _ _ _ _ _ hc q => mul_int q (hc.elim CMul.ok CMulW.ok)
theorem mulOk_of {i j : Int} (h : mulOk i j = true) : CMulA i j := by
  unfold mulOk at h
  rw [Bool.or_eq_true, Bool.or_eq_true] at h
  rcases h with (h | h) | h
  · have := of_decide_eq_true h
    exact .inl (.inl ⟨by omega, by omega⟩)
  · have := of_decide_eq_true h
    exact .inl (.inr ⟨by omega, by omega⟩)
  · exact .inr (of_decide_eq_true (p := i.natAbs.log2 + j.natAbs.log2 < 1000000) h)
def divOk (_ j : Int) : Bool := decide (j ≠ 0) && decide (j.natAbs.log2 < 9000)
def orG (g g' : G2) : G2 := fun a b S => match g a b S with
  | some z => some z
  | none => g' a b S
def gAdd : G2 := orG (gI (fun _ _ => true) fun i j => .int (i + j)) (orG (gS (fun i j => decide (i.length + j.length ≤ 1000000)) fun i j => .str (i ++ j)) (orG (gT (fun xs ys => decide (xs.length + ys.length ≤ 1000000)) fun xs ys => .tup (xs ++ ys)) gCat))
theorem opS_add : OpS X (binaryOp .Add) gAdd := (opS_I0 op_add fun _ _ _ _ _ => .int _).or (opS_add_str.or (opS_cat_tup.or opS_cat_lst))
abbrev gSub : G2 := gI (fun _ _ => true) fun i j => .int (i - j)
theorem opS_sub : OpS X (binaryOp .Sub) gSub := opS_I0 op_sub fun _ _ _ _ _ => .int _
abbrev gMul : G2 := gI mulOk fun i j => .int (i * j)
theorem opS_mul : OpS X (binaryOp .Mult) gMul := opS_I op_mulA (fun _ _ h => mulOk_of h) fun _ _ _ _ _ => .int _
def CDivA (i j : Int) : Prop := j ≠ 0 ∧ j.natAbs.log2 < 9000
theorem op_fdivA : OpR X (binaryOp .FloorDiv) (rI CDivA fun i j => .int (i.fdiv j)) := opI fun i j _ _ _ _ _ hc q => floordiv_int hc.1 q (.inl (PyProof.noPylong_of_log2 hc.2))
abbrev gDiv : G2 := gI divOk fun i j => .int (i.fdiv j)
theorem opS_div : OpS X (binaryOp .FloorDiv) gDiv := opS_I op_fdivA (fun i j h => by
  unfold divOk at h
  rw [Bool.and_eq_true] at h
  exact ⟨of_decide_eq_true h.1, of_decide_eq_true h.2⟩) fun _ _ _ _ _ => .int _
abbrev gMod : G2 := gI (fun _ j => decide (j ≠ 0)) fun i j => .int (i.fmod j)
theorem opS_mod : OpS X (binaryOp .Mod) gMod := opS_I op_modN (fun _ _ h => of_decide_eq_true h) fun _ _ _ _ _ => .int _
abbrev gPow : G2 := gI (fun i j => decide (0 ≤ j) && decide (j ≤ 1000000) && decide (i.natAbs < 2 ^ 64)) fun i j => .int (i ^ j.toNat)
theorem opS_pow : OpS X (binaryOp .Pow) gPow := opS_I op_pow (fun i j h => by
  rw [Bool.and_eq_true, Bool.and_eq_true] at h
  exact ⟨of_decide_eq_true h.1.1, of_decide_eq_true h.1.2, of_decide_eq_true h.2⟩) fun _ _ _ _ _ => .int _
abbrev gShr : G2 := gI (fun _ j => decide (0 ≤ j)) fun i j => .int (i / 2 ^ j.toNat)
theorem opS_shr : OpS X (binaryOp .RShift) gShr := opS_I op_shr (fun _ _ h => of_decide_eq_true h) fun _ _ _ _ _ => .int _
abbrev gShl : G2 := gI (fun i j => decide (0 ≤ j) && decide ((Builtin.Int.intBits i : Int) + j ≤ 2 ^ 27)) fun i j => .int (i * 2 ^ j.toNat)
theorem opS_shl : OpS X (binaryOp .LShift) gShl := opS_I op_shlW (fun i j h => by
  rw [Bool.and_eq_true] at h
  exact ⟨of_decide_eq_true h.1, of_decide_eq_true h.2⟩) fun _ _ _ _ _ => .int _
abbrev gAnd : G2 := gI (fun _ _ => true) fun i j => .int (Builtin.bitAnd i j)
theorem opS_and : OpS X (binaryOp .BitAnd) gAnd := opS_I0 op_and fun _ _ _ _ _ => .int _
abbrev gLt : G2 := gI (fun _ _ => true) fun i j => .bl (decide (i < j))
theorem opS_lt : OpS X (compareOp .Lt) gLt := opS_I0 op_lt fun _ _ _ _ _ => .bl _
abbrev gLe : G2 := gI (fun _ _ => true) fun i j => .bl (decide (i ≤ j))
theorem opS_le : OpS X (compareOp .LtE) gLe := opS_I0 op_le fun _ _ _ _ _ => .bl _
abbrev gGt : G2 := gI (fun _ _ => true) fun i j => .bl (decide (j < i))
theorem opS_gt : OpS X (compareOp .Gt) gGt := opS_I0 op_gt fun _ _ _ _ _ => .bl _
abbrev gGe : G2 := gI (fun _ _ => true) fun i j => .bl (decide (j ≤ i))
theorem opS_ge : OpS X (compareOp .GtE) gGe := opS_I0 op_ge fun _ _ _ _ _ => .bl _
end Rf
namespace Rf
open PySem PySem.Spec PyProof.Rows L2

variable {X : Cx} {ec : Str → Value} {W : WX}
/-! ### one value to another -/
abbrev G1 := D → Sto → Option (D × Sto)
def mUn (g : G1) (ma : M D) : M D := mB ma fun a _ S => match g a S with
  | some (c, S') => some (.val c S')
  | none => none
def gNeg : G1 := fun a S => match a with
  | .int i => some (.int (-i), S)
  | _ => none
theorem x_neg {a : Expr} {ma : M D} {pos : Pos} (ha : XE X ec W a ma) : XE X ec W (.UnaryOp .USub a pos) (mUn gNeg ma) := imE (pe_un un_neg ha) fun σ H Q h => by
  obtain ⟨φ, S, ρ, c⟩ := Cf.start h
  refine rd_imp (c.bind (rel1 := Rel X.K) monoC_true) fun x H1 ⟨φ1, S1, a, ra, c1⟩ => ?_
  obtain ⟨r', e, q⟩ := c1.run
  cases a <;> first | cases e | skip
  cases ra
  exact ⟨_, rfl, q φ1 H1 _ (Ext.refl _ _ _) c1.ok (.int _)⟩
def gNot : G1 := fun a S => match a with
  | .bl i => some (.bl (!i), S)
  | _ => none
theorem x_not {a : Expr} {ma : M D} {pos : Pos} (ha : XE X ec W a ma) : XE X ec W (.UnaryOp .Not a pos) (mUn gNot ma) := imE (pe_not ha) fun σ H Q h => by
  obtain ⟨φ, S, ρ, c⟩ := Cf.start h
  refine rd_imp (c.bind (rel1 := Rel X.K) monoC_true) fun x H1 ⟨φ1, S1, a, ra, c1⟩ => ?_
  obtain ⟨r', e, q⟩ := c1.run
  cases a <;> first | cases e | skip
  cases ra
  exact ⟨_, rfl, q φ1 H1 _ (Ext.refl _ _ _) c1.ok (.bl _)⟩

/-! ### and, or: values, all but the last True or False -/
theorem x_one {op} {a : Expr} {ma : M D} {pos : Pos} (ha : XE X ec W a ma) : XE X ec W (.BoolOp op [a] pos) ma := pe_one ha
def mAndV (ma mb : M D) : M D := mB ma fun a => match a with
  | .bl true => mb
  | .bl false => mRet (.bl false)
  | _ => fun _ _ => none
def mOrV (ma mb : M D) : M D := mB ma fun a => match a with
  | .bl true => mRet (.bl true)
  | .bl false => mb
  | _ => fun _ _ => none
/-- what is left of an evaluation is a reading -/
theorem Cf.rest {K : PySem.W.Frag} {α β : Type} {rel : RelT β α} {C : (Nat → Addr) → Nat → Hp → Prop} {φ : Nat → Addr} {S : Sto} {ρ : Env} {σ : L2.St} {H : Hp} {Q : β → Hp → Prop} {m : M α} (c : Cf K ec rel W C φ S ρ σ H Q (m ρ)) : rd K ec rel W m σ H Q :=
  let ⟨r, e, q⟩ := c.run
  ⟨φ, S, ρ, c.ok, c.env, r, e, q⟩
theorem x_andV {a b : Expr} {rest : List Expr} {ma mb : M D} {pos : Pos} (ha : XE X ec W a ma) (hb : XE X ec W (.BoolOp .And (b :: rest) pos) mb) : XE X ec W (.BoolOp .And (a :: b :: rest) pos) (mAndV ma mb) := imE (pe_and ha hb) fun σ H Q h => by
  obtain ⟨φ, S, ρ, c⟩ := Cf.start h
  refine rd_imp (c.bind (rel1 := Rel X.K) monoC_true) fun x H1 ⟨φ1, S1, a, ra, c1⟩ => ?_
  cases a with
  | bl k =>
    cases ra
    refine ⟨k, rfl, ?_⟩
    cases k with
    | true => exact iteT c1.rest
    | false => exact iteF (c1.ret rfl (.bl false))
  | _ => obtain ⟨_, e, _⟩ := c1.run; cases e
theorem x_orV {a b : Expr} {rest : List Expr} {ma mb : M D} {pos : Pos} (ha : XE X ec W a ma) (hb : XE X ec W (.BoolOp .Or (b :: rest) pos) mb) : XE X ec W (.BoolOp .Or (a :: b :: rest) pos) (mOrV ma mb) := imE (pe_or ha hb) fun σ H Q h => by
  obtain ⟨φ, S, ρ, c⟩ := Cf.start h
  refine rd_imp (c.bind (rel1 := Rel X.K) monoC_true) fun x H1 ⟨φ1, S1, a, ra, c1⟩ => ?_
  cases a with
  | bl k =>
    cases ra
    refine ⟨k, rfl, ?_⟩
    cases k with
    | true => exact iteT (c1.ret rfl (.bl true))
    | false => exact iteF c1.rest
  | _ => obtain ⟨_, e, _⟩ := c1.run; cases e

/-! ### tests -/
def mT (m : M D) : M Bool := mB m fun a => match a with
  | .bl c => mRet c
  | _ => fun _ _ => none
theorem x_test {a : Expr} {ma : M D} (ha : XE X ec W a ma) (he : ∀ whole, isTrue a X.env whole = (do let v ← whole; standAt a.pos; holding [v] (truthy v)) := by intro _; rfl) : XT X ec W a (mT ma) := imT (pt_val ha he) fun σ H Q h => by
  obtain ⟨φ, S, ρ, c⟩ := Cf.start h
  refine rd_imp (c.bind (rel1 := Rel X.K) monoC_true) fun x H1 ⟨φ1, S1, a, ra, c1⟩ => ?_
  obtain ⟨r', e, q⟩ := c1.run
  cases a <;> first | cases e | skip
  cases ra
  exact ⟨_, rfl, q φ1 H1 _ (Ext.refl _ _ _) c1.ok rfl⟩
theorem xt_cmp {op : CmpOp} {g : G2} {a b : Expr} {ma mb : M D} {pos : Pos} (ho : OpS X (compareOp op) g) (ha : XE X ec W a ma) (hb : XE X ec W b mb) (hm : behindInMarks op b = false := by first | exact nomark _ | rfl) : XT X ec W (.Compare a [op] [b] pos) (mT (mOp g ma mb)) := by
  obtain ⟨r, hr, i⟩ := ho
  refine imT (pt_cmpR hr ha hb hm) fun σ H Q h => ?_
  refine rd_op (f := compareOp op) (ec := ec) (W := W) i ?_
  obtain ⟨φ, S, ρ, c⟩ := Cf.start h
  refine rd_imp (c.bind (rel1 := Rel X.K) monoC_true) fun x H1 ⟨φ1, S1, a, ra, c1⟩ => ?_
  obtain ⟨r', e, q⟩ := c1.run
  cases a <;> first | cases e | skip
  cases ra
  exact ⟨_, rfl, q φ1 H1 _ (Ext.refl _ _ _) c1.ok rfl⟩
/-- the truth of any value -/
def truD : D → Sto → Option Bool := fun a S => match a with
  | .non => some false
  | .bl c => some c
  | .int i => some (i != 0)
  | .str y => if y.length ≤ 1000000 then some ((y.length : Int) != 0) else none
  | .tup xs => some (!xs.isEmpty)
  | .fro xs => some (!xs.isEmpty)
  | .ref i => match S[i]? with
    | some (.lst xs) => some (!xs.isEmpty)
    | _ => none
  | _ => none
def mTru (m : M D) : M Bool := mB m fun a _ S => match truD a S with
  | some c => some (.val c S)
  | none => none
theorem Rels.empty {K : PySem.W.Frag} {φ : Nat → Addr} {n : Nat} {H : Hp} {xs : List V} {ds : List D} (r : Rels K φ n H xs ds) : xs.isEmpty = ds.isEmpty := by cases r <;> rfl
theorem x_truth {a : Expr} {ma : M D} (ha : XE X ec W a ma) (he : ∀ whole, isTrue a X.env whole = (do let v ← whole; standAt a.pos; holding [v] (truthy v)) := by intro _; rfl) : XT X ec W a (mTru ma) := imT (pt_truth ha he) fun σ H Q h => by
  obtain ⟨φ, S, ρ, c⟩ := Cf.start h
  refine rd_imp (c.bind (rel1 := Rel X.K) monoC_true) fun x H1 ⟨φ1, S1, a, ra, c1⟩ => ?_
  obtain ⟨r', e, q⟩ := c1.run
  cases hc : truD a S1 with
  | none => rw [hc] at e; cases e
  | some k =>
    rw [hc] at e
    cases e
    refine ⟨k, ?_, q φ1 H1 _ (Ext.refl _ _ _) c1.ok rfl⟩
    cases ra with
    | non => cases hc; rfl
    | bl b => cases hc; rfl
    | int i => cases hc; rfl
    | str y =>
      unfold truD at hc
      dsimp only at hc
      split at hc
      · cases hc; exact ⟨szl (by assumption), rfl⟩
      · cases hc
    | ty _ => cases hc
    | tup h r => cases hc; exact .inr (.inl ⟨_, h, by rw [r.empty]⟩)
    | fro h r => cases hc; exact .inl ⟨_, h.sq, by rw [r.empty]⟩
    | ref hi =>
      unfold truD at hc
      dsimp only at hc
      split at hc
      · rename_i xs hx
        cases hc
        obtain ⟨us, h1, r1⟩ := c1.ok.lst hx
        exact .inl ⟨us, SqL.of h1, by rw [r1.empty]⟩
      · cases hc
def mNotB (m : M Bool) : M Bool := mB m fun c => mRet (!c)
theorem xt_not {a : Expr} {ma : M Bool} {pos : Pos} (ha : XT X ec W a ma) : XT X ec W (.UnaryOp .Not a pos) (mNotB ma) := imT (pt_not ha) fun σ H Q h => by
  obtain ⟨φ, S, ρ, c⟩ := Cf.start h
  refine rd_imp (c.bind (rel1 := RelB) monoC_true) fun x H1 ⟨φ1, S1, a, ra, c1⟩ => ?_
  cases ra
  exact c1.ret rfl rfl
def XW (X : Cx) (ec : Str → Value) (W : WX) (e : Expr) (m : M Bool) : Prop := PW X e (rd X.K ec RelB W m)
theorem imW {e : Expr} {t t' : TT} (h : PW X e t) (i : ∀ σ H Q, t' σ H Q → t σ H Q) : PW X e t' := ⟨fun wh pins s σ H Q I q => h.run wh pins s σ H Q I (i σ H Q q)⟩
theorem XW.xt {e : Expr} {m : M Bool} (h : XW X ec W e m) : XT X ec W e m := PW.pt h
def mAnd (ma mb : M Bool) : M Bool := mB ma fun c => match c with
  | true => mb
  | false => mRet false
def mOr (ma mb : M Bool) : M Bool := mB ma fun c => match c with
  | true => mRet true
  | false => mb
theorem xw_and1 {a : Expr} {ma : M Bool} {pos : Pos} (ha : XT X ec W a ma) : XW X ec W (.BoolOp .And [a] pos) ma := pw_and1 ha
theorem xw_or1 {a : Expr} {ma : M Bool} {pos : Pos} (ha : XT X ec W a ma) : XW X ec W (.BoolOp .Or [a] pos) ma := pw_or1 ha
theorem xw_and {a b : Expr} {rest : List Expr} {ma mb : M Bool} {pos : Pos} (ha : XT X ec W a ma) (hb : XW X ec W (.BoolOp .And (b :: rest) pos) mb) : XW X ec W (.BoolOp .And (a :: b :: rest) pos) (mAnd ma mb) := imW (pw_and ha hb) fun σ H Q h => by
  obtain ⟨φ, S, ρ, c⟩ := Cf.start h
  refine rd_imp (c.bind (rel1 := RelB) monoC_true) fun x H1 ⟨φ1, S1, k, ra, c1⟩ => ?_
  cases ra
  cases x with
  | true => exact iteT c1.rest
  | false => exact iteF (c1.ret rfl rfl)
theorem xw_or {a b : Expr} {rest : List Expr} {ma mb : M Bool} {pos : Pos} (ha : XT X ec W a ma) (hb : XW X ec W (.BoolOp .Or (b :: rest) pos) mb) : XW X ec W (.BoolOp .Or (a :: b :: rest) pos) (mOr ma mb) := imW (pw_or ha hb) fun σ H Q h => by
  obtain ⟨φ, S, ρ, c⟩ := Cf.start h
  refine rd_imp (c.bind (rel1 := RelB) monoC_true) fun x H1 ⟨φ1, S1, k, ra, c1⟩ => ?_
  cases ra
  cases x with
  | true => exact iteT (c1.ret rfl rfl)
  | false => exact iteF c1.rest
def mIf {α : Type} (mc : M Bool) (ma mb : M α) : M α := mB mc fun c => match c with
  | true => ma
  | false => mb
theorem x_ife {c a b : Expr} {mc : M Bool} {ma mb : M D} {pos : Pos} (hc : XT X ec W c mc) (ha : XE X ec W a ma) (hb : XE X ec W b mb) : XE X ec W (.IfExp c a b pos) (mIf mc ma mb) := imE (pe_ifExp hc ha hb) fun σ H Q h => by
  obtain ⟨φ, S, ρ, c⟩ := Cf.start h
  refine rd_imp (c.bind (rel1 := RelB) monoC_true) fun x H1 ⟨φ1, S1, k, ra, c1⟩ => ?_
  cases ra
  cases x with
  | true => exact iteT c1.rest
  | false => exact iteF c1.rest

/-! ### argument lists, displays -/
def mNil : M (List D) := mRet []
def mCons (ma : M D) (mr : M (List D)) : M (List D) := mB ma fun a => mB mr fun as => mRet (a :: as)
theorem xa_nil : XA X ec W [] mNil := imA pa_nil fun σ H Q h => rd_ret (fun _ _ _ => .nil) h
theorem xa_cons {e : Expr} {es : List Expr} {ma : M D} {mr : M (List D)} (ha : XE X ec W e ma) (hr : XA X ec W es mr) (hs : starEach (e :: es) X.env = (false, eval e X.env) :: starEach es X.env := by rfl) : XA X ec W (e :: es) (mCons ma mr) := imA (pa_cons ha hr hs) fun σ H Q h => by
  obtain ⟨φ, S, ρ, c⟩ := Cf.start h
  refine rd_imp (c.bind (rel1 := Rel X.K) monoC_true) fun x H1 ⟨φ1, S1, a, ra, c1⟩ => ?_
  refine rd_imp ((c1.carry ra).bind (rel1 := Rels X.K) monoC_rel) fun xs H2 ⟨φ2, S2, as, rs, c2⟩ => ?_
  exact c2.ret rfl (.cons c2.car rs)
def mTup (ms : M (List D)) : M D := mB ms fun ds => if ds.length ≤ 1000 then mRet (.tup ds) else fun _ _ => none
theorem x_tup {es : List Expr} {ms : M (List D)} {k} {pos : Pos} (h : XA X ec W es ms) : XE X ec W (.Tuple es k pos) (mTup ms) := imE (pe_tup h) fun σ H Q h => by
  obtain ⟨φ, S, ρ, c⟩ := Cf.start h
  refine rd_imp (c.bind (rel1 := Rels X.K) monoC_true) fun x H1 ⟨φ1, S1, ds, ra, c1⟩ => ?_
  obtain ⟨r', e, q⟩ := c1.run
  by_cases hl : ds.length ≤ 1000
  · simp only [if_pos hl] at e
    cases e
    refine ⟨by rw [ra.len]; exact szl (by omega), fun p hp => ?_⟩
    exact q φ1 _ _ (ext_imm hp) (c1.ok.imm hp) (.tup (SqT.of upd_same) (ra.mono c1.ok (ext_imm hp)))
  · simp only [if_neg hl] at e
    cases e
/-- a new list -/
def mNew (ds : List D) : M D := fun _ S => some (.val (.ref S.length) (S ++ [.lst ds]))
theorem Cf.new {K : PySem.W.Frag} {C : (Nat → Addr) → Nat → Hp → Prop} {φ : Nat → Addr} {S : Sto} {ρ : Env} {σ : L2.St} {H : Hp} {Q : VK} {k : Sto → Option (R D)} {ds : List D} {xs : List V} (c : Cf K ec (Rel K) W C φ S ρ σ H Q k) (hk : k S = some (.val (.ref S.length) (S ++ [.lst ds])))
    (r : Rels K φ S.length H xs ds) {p : Addr} (hp : H p = none) : Q (.ref p) (upd H p (.lst xs)) := by
  have ex := ext_new (S := S) (φ := φ) (H := H) (ho := .lst xs) hp
  refine c.done hk (φ' := nxt φ S.length p) (by rw [List.length_append, List.length_singleton]; exact ex) (c.ok.new hp (.lst r)) ?_
  rw [List.length_append, List.length_singleton]
  have := @Rel.ref K (nxt φ S.length p) (S.length + 1) (upd H p (.lst xs)) S.length (Nat.lt_succ_self _)
  rw [nxt_new] at this
  exact this
def mLst (ms : M (List D)) : M D := mB ms fun ds => if ds.length ≤ 1000 then mNew ds else fun _ _ => none
theorem x_lst {es : List Expr} {ms : M (List D)} {pos : Pos} (h : XA X ec W es ms) : XE X ec W (.List es pos) (mLst ms) := imE (pe_lst h) fun σ H Q h => by
  obtain ⟨φ, S, ρ, c⟩ := Cf.start h
  refine rd_imp (c.bind (rel1 := Rels X.K) monoC_true) fun x H1 ⟨φ1, S1, ds, ra, c1⟩ => ?_
  by_cases hl : ds.length ≤ 1000
  · refine ⟨by rw [ra.len]; exact szl (by omega), fun p hp => c1.new ?_ ra hp⟩
    simp only [if_pos hl]
    rfl
  · obtain ⟨r', e, q⟩ := c1.run
    simp only [if_neg hl] at e
    cases e

/-! ### subscripts -/
/-- the items that a sequence has -/
def itemsOf (S : Sto) : D → Option (List D)
  | .tup xs => some xs
  | .fro xs => some xs
  | .ref i => match S[i]? with
    | some (.lst xs) => some xs
    | _ => none
  | _ => none
theorem items_rel {φ : Nat → Addr} {S : Sto} {H : Hp} {v : V} {d : D} {ds : List D} (ok : Ok X.K φ S H) (r : Rel X.K φ S.length H v d) (h : itemsOf S d = some ds) : ∃ p xs, v = .ref p ∧ (SqL X.K H p xs ∨ SqT X.K H p xs) ∧ Rels X.K φ S.length H xs ds := by
  cases r with
  | tup h1 r1 => cases h; exact ⟨_, _, rfl, .inr h1, r1⟩
  | fro h1 r1 => cases h; exact ⟨_, _, rfl, .inl h1.sq, r1⟩
  | ref hi =>
    unfold itemsOf at h
    dsimp only at h
    split at h
    · rename_i xs hx
      cases h
      obtain ⟨us, h1, r1⟩ := ok.lst hx
      exact ⟨_, us, rfl, .inl (SqL.of h1), r1⟩
    · cases h
  | non => cases h
  | bl _ => cases h
  | int _ => cases h
  | str _ => cases h
  | ty _ => cases h
theorem atI_rels {K : PySem.W.Frag} {φ : Nat → Addr} {n : Nat} {H : Hp} {xs : List V} {ds : List D} {i : Int} {d : D} (r : Rels K φ n H xs ds) (h : atI ds i = some d) : ∃ v, atI xs i = some v ∧ Rel K φ n H v d := by
  unfold atI at h ⊢
  rw [r.len]
  cases e : ixN ds.length i with
  | none => rw [e] at h; cases h
  | some j =>
    rw [e] at h
    exact r.get j h
def gIx : G2 := fun a b S => match b with
  | .int i => match a with
    | .str z => if z.length ≤ 1000000 then (atI z.cps.toList i).map fun c => (.str ⟨#[c]⟩, S) else none
    | a => (itemsOf S a).bind fun xs => (atI xs i).map fun d => (d, S)
  | _ => none
theorem x_ix {a b : Expr} {ma mb : M D} {pos : Pos} (ha : XE X ec W a ma) (hb : XE X ec W b mb) (hs : PlainIx b := by exact fun _ _ => rfl) : XE X ec W (.Subscript a b pos) (mOp gIx ma mb) :=
  imE (pe_ix ix_seq ha hb hs) fun σ H Q h => rd_op (f := fun _ _ => getItem .none .none) (fun φ S H x y a b c S' ok ra rb e Q q => by
    have seq : ∀ {i : Int} {xs : List D} {d : D}, itemsOf S a = some xs → atI xs i = some d → y = .int i → (c, S') = (d, S) → rIx X.K x y H Q := fun {i xs d} h1 h2 h3 h4 => by
      cases h4
      obtain ⟨p, us, e1, h5, r5⟩ := items_rel ok ra h1
      obtain ⟨v, h6, r6⟩ := atI_rels r5 h2
      have qq := q φ H v (Ext.refl _ _ _) ok r6
      rcases h5 with h5 | h5
      · exact .inl ⟨p, us, i, v, e1, h3, h5, h6, qq⟩
      · exact .inr (.inl ⟨p, us, i, v, e1, h3, h5, h6, qq⟩)
    cases rb with
    | int i =>
      unfold gIx at e
      dsimp only at e
      split at e
      · rename_i z
        split at e
        · rename_i hz
          cases h2 : atI z.cps.toList i with
          | none => rw [h2] at e; cases e
          | some cc =>
            rw [h2] at e
            cases e
            cases ra
            exact .inr (.inr ⟨z, i, cc, rfl, rfl, szl hz, h2, q φ H _ (Ext.refl _ _ _) ok (.str _)⟩)
        · cases e
      · cases h1 : itemsOf S a with
        | none => rw [h1] at e; cases e
        | some xs =>
          rw [h1] at e
          cases h2 : atI xs i with
          | none => simp only [Option.bind_some, h2] at e; cases e
          | some d =>
            simp only [Option.bind_some, h2] at e
            cases e
            exact seq h1 h2 rfl rfl
    | _ => cases e) h

/-! ### calls of built-ins -/
abbrev GN := List D → Sto → Option (D × Sto)
def CallS (X : Cx) (f : Value) (g : GN) : Prop := ∃ r : List V → Hp → VK → Prop, CallR X f r ∧ ∀ (φ : Nat → Addr) (S : Sto) (H : Hp) (xs : List V) (as : List D) (c : D) (S' : Sto), Ok X.K φ S H → Rels X.K φ S.length H xs as → g as S = some (c, S') →
  ∀ Q : VK, (∀ φ' H' v, Ext φ S.length H φ' S'.length H' → Ok X.K φ' S' H' → Rel X.K φ' S'.length H' v c → Q v H') → r xs H Q
def mBi (g : GN) (ms : M (List D)) : M D := mB ms fun as _ S => match g as S with
  | some (c, S') => some (.val c S')
  | none => none
theorem rd_bi {g : GN} {ms : M (List D)} {σ : L2.St} {H : Hp} {Q : VK} {r : List V → Hp → VK → Prop} (hr : ∀ (φ : Nat → Addr) (S : Sto) (H : Hp) (xs : List V) (as : List D) (c : D) (S' : Sto), Ok X.K φ S H → Rels X.K φ S.length H xs as → g as S = some (c, S') →
  ∀ Q : VK, (∀ φ' H' v, Ext φ S.length H φ' S'.length H' → Ok X.K φ' S' H' → Rel X.K φ' S'.length H' v c → Q v H') → r xs H Q) (h : rd X.K ec (Rel X.K) W (mBi g ms) σ H Q) : tCB r (rd X.K ec (Rels X.K) W ms) σ H Q := by
  obtain ⟨φ, S, ρ, c⟩ := Cf.start h
  refine rd_imp (c.bind (rel1 := Rels X.K) monoC_true) fun xs H1 ⟨φ1, S1, as, ra, c1⟩ => ?_
  obtain ⟨r', e, q⟩ := c1.run
  cases hg : g as S1 with
  | none => rw [hg] at e; cases e
  | some p =>
    obtain ⟨z, S'⟩ := p
    rw [hg] at e
    cases e
    exact hr φ1 S1 H1 xs as z S' c1.ok ra hg Q q
section
variable {x : Str} {p pos : Pos} {e : Expr} {es : List Expr} {id T : String} {g : GN} {ms : M (List D)}
theorem x_biB (hc : CallS X (.builtin id) g) (hm : X.mg x = none) (hv : bootBuiltins x = some (.builtin id)) (ha : XA X ec W (e :: es) ms) (hg : Gl X x := by rfl) (hn : x ≠ "__name__" := by decide) (hdb : (x == ("__debug__" : Str)) = false := by decide)
    (he : starEach (e :: es) X.env = (false, eval e X.env) :: starEach es X.env := by rfl) (hpl : (backTo pos (starEach es X.env)).any (·.1) = false := by rfl) : XE X ec W (.Call (.Name x p) (e :: es) [] pos) (mBi g ms) := by
  obtain ⟨r, hr, i⟩ := hc
  exact imE (pe_callB hr hg hm hv ha hn hdb he hpl) fun σ H Q h => rd_bi i h
theorem x_biT (hc : CallS X (.type T) g) (hm : X.mg x = none) (hv : bootBuiltins x = some (.type T)) (ha : XA X ec W (e :: es) ms) (hg : Gl X x := by rfl) (hn : x ≠ "__name__" := by decide) (hdb : (x == ("__debug__" : Str)) = false := by decide)
    (he : starEach (e :: es) X.env = (false, eval e X.env) :: starEach es X.env := by rfl) (hpl : (backTo pos (starEach es X.env)).any (·.1) = false := by rfl) : XE X ec W (.Call (.Name x p) (e :: es) [] pos) (mBi g ms) := by
  obtain ⟨r, hr, i⟩ := hc
  exact imE (pe_callTy hr hg hm hv ha hn hdb he hpl) fun σ H Q h => rd_bi i h
theorem x_biF (hc : CallS X (.builtin id) g) (hm : X.mg x = some (.builtin id)) (ha : XA X ec W (e :: es) ms) (hg : Gl X x := by rfl) (hdb : (x == ("__debug__" : Str)) = false := by decide)
    (he : starEach (e :: es) X.env = (false, eval e X.env) :: starEach es X.env := by rfl) (hpl : (backTo pos (starEach es X.env)).any (·.1) = false := by rfl) : XE X ec W (.Call (.Name x p) (e :: es) [] pos) (mBi g ms) := by
  obtain ⟨r, hr, i⟩ := hc
  exact imE (pe_callBfun hr hg hm ha hdb he hpl) fun σ H Q h => rd_bi i h
end
theorem CallS.or {f : Value} {g g' : GN} (h : CallS X f g) (h' : CallS X f g') : CallS X f (fun a S => match g a S with | some z => some z | none => g' a S) := by
  obtain ⟨r, hr, i⟩ := h
  obtain ⟨r', hr', i'⟩ := h'
  refine ⟨_, CallR.or hr hr', fun φ S H xs as c S' ok ra e Q q => ?_⟩
  dsimp only at e
  cases e1 : g as S with
  | some z =>
    rw [e1] at e
    cases e
    exact .inl (i φ S H xs as c S' ok ra e1 Q q)
  | none =>
    rw [e1] at e
    exact .inr (i' φ S H xs as c S' ok ra e Q q)
def gAbs : GN := fun as S => match as with
  | [.int i] => some (.int (if i < 0 then -i else i), S)
  | _ => none
theorem callS_abs : CallS X (.builtin "abs") gAbs := ⟨_, call_abs, fun φ S H xs as c S' ok ra e Q q => by
  unfold gAbs at e
  split at e
  · cases e
    cases ra with
    | cons r t => cases r; cases t; exact ⟨_, rfl, q φ H _ (Ext.refl _ _ _) ok (.int _)⟩
  · cases e⟩
def gGcd : GN := fun as S => match as with
  | [.int i, .int j] => some (.int ((Nat.gcd i.natAbs j.natAbs : Nat) : Int), S)
  | _ => none
theorem callS_gcd : CallS X (.builtin "math.gcd") gGcd := ⟨_, cr_gcd, fun φ S H xs as c S' ok ra e Q q => by
  unfold gGcd at e
  split at e
  · cases e
    cases ra with
    | cons r t =>
      cases r
      cases t with
      | cons r t => cases r; cases t; exact ⟨_, _, rfl, q φ H _ (Ext.refl _ _ _) ok (.int _)⟩
  · cases e⟩
def gInt : GN := fun as S => match as with
  | [.int i] => some (.int i, S)
  | [.bl k] => some (.int (if k then 1 else 0), S)
  | _ => none
theorem callS_int : CallS X (.type "int") gInt := ⟨_, call_int1, fun φ S H xs as c S' ok ra e Q q => by
  unfold gInt at e
  split at e
  · cases e
    cases ra with
    | cons r t => cases r; cases t; exact .inl ⟨_, rfl, q φ H _ (Ext.refl _ _ _) ok (.int _)⟩
  · cases e
    cases ra with
    | cons r t => cases r; cases t; exact .inr ⟨_, rfl, q φ H _ (Ext.refl _ _ _) ok (.int _)⟩
  · cases e⟩
def gLen : GN := fun as S => match as with
  | [a] => (itemsOf S a).map fun xs => (.int xs.length, S)
  | _ => none
theorem callS_len : CallS X (.builtin "len") gLen := ⟨_, call_len_seq, fun φ S H xs as c S' ok ra e Q q => by
  unfold gLen at e
  split at e
  · rename_i a
    cases h1 : itemsOf S a with
    | none => rw [h1] at e; cases e
    | some ds =>
      rw [h1] at e
      cases e
      cases ra with
      | cons r t =>
        cases t
        obtain ⟨p, us, e1, h5, r5⟩ := items_rel ok r h1
        subst e1
        refine ⟨p, us, rfl, h5, q φ H _ (Ext.refl _ _ _) ok ?_⟩
        rw [r5.len]
        exact .int _
  · cases e⟩
/-- the type's name -/
def tyD (S : Sto) : D → Option String
  | .non => some "NoneType"
  | .bl _ => some "bool"
  | .int _ => some "int"
  | .str _ => some "str"
  | .tup _ => some "tuple"
  | .fro _ => some "list"
  | .ref i => match S[i]? with
    | some (.lst _) => some "list"
    | some (.dct _) => some "dict"
    | none => none
  | .ty _ => none
theorem ty_rel {φ : Nat → Addr} {S : Sto} {H : Hp} {v : V} {d : D} {n : String} (ok : Ok X.K φ S H) (r : Rel X.K φ S.length H v d) (h : tyD S d = some n) : TyX X.K H v (.type n) := by
  cases r with
  | non => cases h; exact .base .non
  | bl b => cases h; exact .base (.bl b)
  | int b => cases h; exact .base (.int b)
  | str b => cases h; exact .base (.str b)
  | ty b => cases h
  | tup h1 r1 =>
    cases h
    rcases h1 with (h1 | ⟨o, h1⟩) | ⟨o, its, n, h1, h2, _⟩
    · exact .base (.tup h1)
    · exact .fTuple h1
    · exact .kTuple h1 h2
  | fro h1 r1 =>
    cases h
    rcases h1.sq with (h1 | ⟨o, h1⟩) | ⟨o, its, n, h1, h2, _⟩
    · exact .base (.lst h1)
    · exact .base (.frz h1)
    · exact .kList h1 h2
  | @ref i hi =>
    unfold tyD at h
    dsimp only at h
    obtain ⟨ho, e, ro⟩ := ok.obj i _ (List.getElem?_eq_getElem hi)
    rw [List.getElem?_eq_getElem hi] at h
    generalize S[i] = o at h ro
    cases ro with
    | lst _ => cases h; exact .base (.lst e)
    | dct _ _ => cases h; exact .base (.dT e)
/-- isinstance(x, T) -/
def gIsi : GN := fun as S => match as with
  | [a, .ty T] => (tyD S a).bind fun n => (kitB n T).map fun b => (.bl b, S)
  | _ => none
theorem callS_isi : CallS X (.builtin "isinstance") gIsi := ⟨_, call_isi, fun φ S H xs as c S' ok ra e Q q => by
  unfold gIsi at e
  split at e
  · rename_i a T
    cases h1 : tyD S a with
    | none => rw [h1] at e; cases e
    | some n =>
      rw [h1] at e
      cases h2 : kitB n T with
      | none => simp only [Option.bind_some, h2] at e; cases e
      | some b =>
        simp only [Option.bind_some, h2] at e
        cases e
        cases ra with
        | cons r t =>
          cases t with
          | cons r2 t2 =>
            cases r2
            cases t2
            exact ⟨_, _, _, _, b, rfl, .ty T, ty_rel ok r h1, kit_ty h2, q φ H _ (Ext.refl _ _ _) ok (.bl b)⟩
  · cases e⟩
/-- tuple(x), list(x) of a list or a tuple -/
def gTupOf : GN := fun as S => match as with
  | [a] => (itemsOf S a).map fun xs => (.tup xs, S)
  | _ => none
theorem callS_tuple : CallS X (.type "tuple") gTupOf := ⟨_, call_tuple_of, fun φ S H xs as c S' ok ra e Q q => by
  unfold gTupOf at e
  split at e
  · rename_i a
    cases h1 : itemsOf S a with
    | none => rw [h1] at e; cases e
    | some ds =>
      rw [h1] at e
      cases e
      cases ra with
      | cons r t =>
        cases t
        obtain ⟨p, us, e1, h5, r5⟩ := items_rel ok r h1
        subst e1
        refine ⟨p, us, rfl, ?_⟩
        rcases h5 with h5 | h5
        · exact .inl ⟨h5, fun l hl => q φ _ _ (ext_imm hl) (ok.imm hl) (.tup (SqT.of upd_same) (r5.mono ok (ext_imm hl)))⟩
        · exact .inr ⟨h5, q φ H _ (Ext.refl _ _ _) ok (.tup h5 r5)⟩
  · cases e⟩
def gLstOf : GN := fun as S => match as with
  | [a] => (itemsOf S a).map fun xs => (.ref S.length, S ++ [.lst xs])
  | _ => none
theorem rel_new {K : PySem.W.Frag} {φ : Nat → Addr} {S : Sto} {H : Hp} {p : Addr} {o : O} : Rel K (nxt φ S.length p) (S ++ [o]).length H (.ref p) (.ref S.length) := by
  rw [List.length_append, List.length_singleton]
  have := @Rel.ref K (nxt φ S.length p) (S.length + 1) H S.length (Nat.lt_succ_self _)
  rw [nxt_new] at this
  exact this
theorem ext_new' {φ : Nat → Addr} {S : Sto} {H : Hp} {p : Addr} {ho : HO} {o : O} (hp : H p = none) : Ext φ S.length H (nxt φ S.length p) (S ++ [o]).length (upd H p ho) := by
  rw [List.length_append, List.length_singleton]
  exact ext_new hp
theorem callS_list : CallS X (.type "list") gLstOf := ⟨_, call_list_of, fun φ S H xs as c S' ok ra e Q q => by
  unfold gLstOf at e
  split at e
  · rename_i a
    cases h1 : itemsOf S a with
    | none => rw [h1] at e; cases e
    | some ds =>
      rw [h1] at e
      cases e
      cases ra with
      | cons r t =>
        cases t
        obtain ⟨p, us, e1, h5, r5⟩ := items_rel ok r h1
        subst e1
        refine ⟨p, us, rfl, h5, fun l hl => q _ _ _ (ext_new' hl) (ok.new hl (.lst r5)) rel_new⟩
  · cases e⟩

/-! ### calls of defs -/
/-- a def's promise: F of the values -/
def spF (K : PySem.W.Frag) (ec : Str → Value) (n : Nat) (F : List D → Sto → Option (R D)) : Sp := fun vs H Q E => ∃ (φ : Nat → Addr) (S : Sto) (ds : List D), Ok K φ S H ∧ Rels K φ S.length H vs ds ∧ vs.length = n ∧ ∃ r, F ds S = some r ∧ KV K ec (Rel K) (fun cls d _ H => E cls d H) φ S.length [] H Q r
def mCall (F : List D → Sto → Option (R D)) (ms : M (List D)) : M D := mB ms fun as _ S => F as S
theorem x_call {x : Str} {p pos : Pos} {e : Expr} {es : List Expr} {ms : M (List D)} {k n : Nat} {f : Addr} {fd : FuncData} {ps : List Str} {F : List D → Sto → Option (R D)} (tk : Takes X W)
    (G : FnOk X.prog X.w X.K X.mg X.base (L2.CX X.prog X.w) k f fd ps (spF X.K ec n F)) (hr : Room k X.A) (hm : X.mg x = some (.ref f)) (hk : PySem.W.keepIn X.K (.ref f) = true) (hb : Binds X.K fd ps [])
    (ha : XA X ec W (e :: es) ms) (hl : ps.length = n := by rfl) (hn : (e :: es).length = n := by rfl) (hg : Gl X x := by rfl) (hdb : (x == ("__debug__" : Str)) = false := by decide) (he : starEach (e :: es) X.env = (false, eval e X.env) :: starEach es X.env := by rfl) (hpl : (backTo pos (starEach es X.env)).any (·.1) = false := by rfl)
    (hms : ∀ ρ S ds S', ms ρ S = some (.val ds S') → ds.length = n) : XE X ec W (.Call (.Name x p) (e :: es) [] pos) (mCall F ms) := by
  refine imE (pe_callSD (E := fun σ cls d H => W cls d σ H) (dvs := []) G hr hg hm hk hb .nil (fun σ => passAt tk σ) ha hdb he hpl) fun σ H Q h => ?_
  obtain ⟨φ, S, ρ, c⟩ := Cf.start h
  obtain ⟨r0, e0, q0⟩ := c.run
  unfold mCall mB at e0
  refine ⟨φ, S, ρ, c.ok, c.env, ?_⟩
  cases h1 : ms ρ S with
  | none => rw [h1] at e0; cases e0
  | some z =>
    rw [h1] at e0
    refine ⟨z, rfl, ?_⟩
    cases z with
    | exc c' S1 => cases e0; exact q0
    | val as S1 =>
      have e0 : F as S1 = some r0 := e0
      intro φ' H' b ex ok rb
      refine ⟨φ', S1, as, ok, by rw [List.append_nil]; exact rb, by rw [List.append_nil, rb.len]; exact hms ρ S as S1 h1, r0, e0, ?_⟩
      cases r0 with
      | val a S2 => exact fun φ2 H2 b2 ex2 => q0 φ2 H2 b2 (ex.trans ex2)
      | exc c2 S2 => exact fun φ2 H2 ex2 => q0 φ2 H2 (ex.trans ex2)
theorem mNil_len {ρ : Env} {S S' : Sto} {ds : List D} (h : mNil ρ S = some (.val ds S')) : ds.length = 0 := by cases h; rfl
theorem mCons_len {n : Nat} {ma : M D} {mr : M (List D)} (hr : ∀ ρ S ds S', mr ρ S = some (.val ds S') → ds.length = n) : ∀ ρ S ds S', mCons ma mr ρ S = some (.val ds S') → ds.length = n + 1 := fun ρ S ds S' h => by
  unfold mCons mB at h
  split at h
  · cases h
  · cases h
  · dsimp only at h
    split at h
    · cases h
    · cases h
    · rename_i e1
      cases h
      rw [List.length_cons, hr _ _ _ _ e1]
end Rf
namespace Rf
open PySem PySem.Spec PyProof.Rows L2

variable {X : Cx} {ec : Str → Value} {W : WX}
/-! ### statements -/
inductive RS where
  | nx (ρ : Env) (S : Sto) | ret (d : D) (S : Sto) | brk (ρ : Env) (S : Sto) | cnt (ρ : Env) (S : Sto) | exc (c : Str) (ρ : Env) (S : Sto)
abbrev MS := Env → Sto → Option RS
section
variable (K : PySem.W.Frag) (ec : Str → Value)
def KS (W : WX) (φ : Nat → Addr) (n : Nat) (H : Hp) (D : Ends) : RS → Prop
  | .nx ρ S' => ∀ φ' H' σ', Ext φ n H φ' S'.length H' → Ok K φ' S' H' → RelE K φ' S'.length H' ρ σ' → D.nx σ' H'
  | .brk ρ S' => ∀ φ' H' σ', Ext φ n H φ' S'.length H' → Ok K φ' S' H' → RelE K φ' S'.length H' ρ σ' → D.bk σ' H'
  | .cnt ρ S' => ∀ φ' H' σ', Ext φ n H φ' S'.length H' → Ok K φ' S' H' → RelE K φ' S'.length H' ρ σ' → D.ct σ' H'
  | .ret d S' => ∀ φ' H' v, Ext φ n H φ' S'.length H' → Ok K φ' S' H' → Rel K φ' S'.length H' v d → D.rt v H'
  | .exc c ρ S' => ∀ φ' H' σ', Ext φ n H φ' S'.length H' → Ok K φ' S' H' → RelE K φ' S'.length H' ρ σ' → W (ec c) none σ' H'
def rdS (W : WX) (m : MS) : TS := fun D σ H => ∃ (φ : Nat → Addr) (S : Sto) (ρ : Env), Ok K φ S H ∧ RelE K φ S.length H ρ σ ∧ ∃ r, m ρ S = some r ∧ KS K ec W φ S.length H D r
end
section
variable {K : PySem.W.Frag}
theorem KS.ext {φ φ1 : Nat → Addr} {n n1 : Nat} {H H1 : Hp} {D : Ends} {r : RS} (e : Ext φ n H φ1 n1 H1) (h : KS K ec W φ n H D r) : KS K ec W φ1 n1 H1 D r := by
  cases r with
  | nx ρ S' => exact fun φ' H' σ' e' => h φ' H' σ' (e.trans e')
  | brk ρ S' => exact fun φ' H' σ' e' => h φ' H' σ' (e.trans e')
  | cnt ρ S' => exact fun φ' H' σ' e' => h φ' H' σ' (e.trans e')
  | ret d S' => exact fun φ' H' v e' => h φ' H' v (e.trans e')
  | exc c ρ S' => exact fun φ' H' σ' e' => h φ' H' σ' (e.trans e')
structure Cs (K : PySem.W.Frag) (ec : Str → Value) (W : WX) (C : (Nat → Addr) → Nat → Hp → Prop) (φ : Nat → Addr) (S : Sto) (ρ : Env) (σ : L2.St) (H : Hp) (D : Ends) (k : Sto → Option RS) : Prop where
  ok : Ok K φ S H
  env : RelE K φ S.length H ρ σ
  car : C φ S.length H
  run : ∃ r, k S = some r ∧ KS K ec W φ S.length H D r
def sB {α : Type} (m : M α) (k : α → MS) : MS := fun ρ S => match m ρ S with
  | none => none
  | some (.exc c S1) => some (.exc c ρ S1)
  | some (.val a S1) => k a ρ S1
variable {C : (Nat → Addr) → Nat → Hp → Prop} {φ : Nat → Addr} {S : Sto} {ρ : Env} {σ : L2.St} {H : Hp} {D : Ends}
theorem Cs.start {m : MS} (h : rdS K ec W m D σ H) : ∃ (φ : Nat → Addr) (S : Sto) (ρ : Env), Cs K ec W (fun _ _ _ => True) φ S ρ σ H D (m ρ) := by
  obtain ⟨φ, S, ρ, ok, env, r, e, q⟩ := h
  exact ⟨φ, S, ρ, ok, env, trivial, r, e, q⟩
theorem Cs.bind {γ δ : Type} {rel1 : RelT δ γ} (hC : MonoC K C) {m : M γ} {k : γ → MS} (c : Cs K ec W C φ S ρ σ H D (sB m k ρ)) :
    rd K ec rel1 W m σ H fun x H1 => ∃ (φ1 : Nat → Addr) (S1 : Sto) (a : γ), rel1 φ1 S1.length H1 x a ∧ Ext φ S.length H φ1 S1.length H1 ∧ Cs K ec W C φ1 S1 ρ σ H1 D (k a ρ) := by
  obtain ⟨r, e, q⟩ := c.run
  unfold sB at e
  split at e
  · cases e
  · rename_i c1 S1 e1
    cases e
    exact ⟨φ, S, ρ, c.ok, c.env, _, e1, fun φ' H' ex ok => q φ' H' σ ex ok (c.env.mono c.ok ex)⟩
  · rename_i a S1 e1
    exact ⟨φ, S, ρ, c.ok, c.env, _, e1, fun φ' H' b ex ok r1 => ⟨φ', S1, a, r1, ex, ok, c.env.mono c.ok ex, hC _ _ _ _ _ _ c.ok ex c.car, r, e, q.ext ex⟩⟩
theorem Cs.carry {C' : (Nat → Addr) → Nat → Hp → Prop} {k : Sto → Option RS} (c : Cs K ec W C φ S ρ σ H D k) (h : C' φ S.length H) : Cs K ec W C' φ S ρ σ H D k := ⟨c.ok, c.env, h, c.run⟩
theorem Cs.rest {m : MS} (c : Cs K ec W C φ S ρ σ H D (m ρ)) : rdS K ec W m D σ H :=
  let ⟨r, e, q⟩ := c.run
  ⟨φ, S, ρ, c.ok, c.env, r, e, q⟩
end
def XS (X : Cx) (ec : Str → Value) (W : WX) (st : Stmt) (m : MS) : Prop := PS X st (rdS X.K ec W m)
def XSs (X : Cx) (ec : Str → Value) (W : WX) (st : List Stmt) (m : MS) : Prop := PSs X st (rdS X.K ec W m)
theorem imS {st : Stmt} {t t' : TS} (h : PS X st t) (i : ∀ D σ H, t' D σ H → t D σ H) : PS X st t' := ⟨fun pins s σ H D I q => h.run pins s σ H D I (i D σ H q)⟩
theorem imSs {st : List Stmt} {t t' : TS} (h : PSs X st t) (i : ∀ D σ H, t' D σ H → t D σ H) : PSs X st t' := ⟨fun pins s σ H D I q => h.run pins s σ H D I (i D σ H q)⟩

def sNil : MS := fun ρ S => some (.nx ρ S)
def sSeq (a b : MS) : MS := fun ρ S => match a ρ S with
  | some (.nx ρ' S') => b ρ' S'
  | r => r
theorem xs_nil : XSs X ec W [] sNil := imSs pss_nil fun D σ H h => by
  obtain ⟨φ, S, ρ, ok, env, r, e, q⟩ := h
  cases e
  exact q φ H σ (Ext.refl _ _ _) ok env
theorem xs_one {st : Stmt} {m : MS} (h : XS X ec W st m) : XSs X ec W [st] m := pss_one h
theorem xs_cons {st : Stmt} {rest : List Stmt} {a b : MS} (h1 : XS X ec W st a) (h2 : XSs X ec W rest b) : XSs X ec W (st :: rest) (sSeq a b) := imSs (pss_cons h1 h2) fun D σ H h => by
  obtain ⟨φ, S, ρ, ok, env, r, e, q⟩ := h
  unfold sSeq at e
  split at e
  · rename_i ρ' S' e1
    exact ⟨φ, S, ρ, ok, env, _, e1, fun φ' H' σ' ex ok' env' => ⟨φ', S', ρ', ok', env', r, e, q.ext ex⟩⟩
  · rename_i r1 hne
    refine ⟨φ, S, ρ, ok, env, r, e, ?_⟩
    cases r with
    | nx ρ' S' => exact absurd e (hne ρ' S')
    | _ => exact q
def sPass : MS := sNil
theorem x_pass {pos : Pos} : XS X ec W (.Pass pos) sNil := imS ps_pass fun D σ H h => by
  obtain ⟨φ, S, ρ, ok, env, r, e, q⟩ := h
  cases e
  exact q φ H σ (Ext.refl _ _ _) ok env
def sBrk : MS := fun ρ S => some (.brk ρ S)
theorem x_break {pos : Pos} : XS X ec W (.Break pos) sBrk := imS ps_break fun D σ H h => by
  obtain ⟨φ, S, ρ, ok, env, r, e, q⟩ := h
  cases e
  exact q φ H σ (Ext.refl _ _ _) ok env
def sCnt : MS := fun ρ S => some (.cnt ρ S)
theorem x_cont {pos : Pos} : XS X ec W (.Continue pos) sCnt := imS ps_continue fun D σ H h => by
  obtain ⟨φ, S, ρ, ok, env, r, e, q⟩ := h
  cases e
  exact q φ H σ (Ext.refl _ _ _) ok env
def sEx (m : M D) : MS := sB m fun _ ρ S => some (.nx ρ S)
theorem x_ex {e : Expr} {m : M D} {pos : Pos} (h : XE X ec W e m) (hs : swapsWith e none pos.line X.env = pure false := by rfl) : XS X ec W (.Expr e pos) (sEx m) := imS (ps_expr h hs) fun D σ H h => by
  obtain ⟨φ, S, ρ, c⟩ := Cs.start h
  refine rd_imp (c.bind (rel1 := Rel X.K) monoC_true) fun x H1 ⟨φ1, S1, a, ra, ex, c1⟩ => ?_
  obtain ⟨r, e, q⟩ := c1.run
  cases e
  exact q φ1 H1 σ (Ext.refl _ _ _) c1.ok c1.env
def sRet (m : M D) : MS := sB m fun d _ S => some (.ret d S)
theorem x_ret {e : Expr} {m : M D} {pos : Pos} (h : XE X ec W e m) : XS X ec W (.Return (some e) pos) (sRet m) := imS (ps_ret h) fun D σ H h => by
  obtain ⟨φ, S, ρ, c⟩ := Cs.start h
  refine rd_imp (c.bind (rel1 := Rel X.K) monoC_true) fun x H1 ⟨φ1, S1, a, ra, ex, c1⟩ => ?_
  obtain ⟨r, e, q⟩ := c1.run
  cases e
  exact q φ1 H1 x (Ext.refl _ _ _) c1.ok ra
def sRetN : MS := fun _ S => some (.ret .non S)
theorem x_retN {pos : Pos} : XS X ec W (.Return none pos) sRetN := imS ps_retN fun D σ H h => by
  obtain ⟨φ, S, ρ, ok, env, r, e, q⟩ := h
  cases e
  exact q φ H .non (Ext.refl _ _ _) ok .non
def sIf (c : M Bool) (a b : MS) : MS := sB c fun k => match k with
  | true => a
  | false => b
theorem x_if {c : Expr} {a b : List Stmt} {mc : M Bool} {ma mb : MS} {pos : Pos} (hc : XT X ec W c mc) (ha : XSs X ec W a ma) (hb : XSs X ec W b mb) : XS X ec W (.If c a b pos) (sIf mc ma mb) := imS (ps_if hc ha hb) fun D σ H h => by
  obtain ⟨φ, S, ρ, c⟩ := Cs.start h
  refine rd_imp (c.bind (rel1 := RelB) monoC_true) fun x H1 ⟨φ1, S1, a, ra, ex, c1⟩ => ?_
  cases ra
  cases x with
  | true => exact iteT c1.rest
  | false => exact iteF c1.rest
def sSet (i : Nat) (m : M D) : MS := sB m fun d ρ S => some (.nx (ρ.set i (some d)) S)
theorem x_set {x : Str} {e : Expr} {m : M D} {pos pos' : Pos} (i : Nat) (hN : X.N.Nodup) (h : XE X ec W e m) (hi : X.N[i]? = some x := by rfl) (hx : Loc X.env.scope x := by first | exact Or.inl rfl | exact Or.inr rfl) (hs : swapsWith e (some (.Name x pos')) pos.line X.env = pure false := by rfl) (hf : X.fn x = true ∨ X.env.scope.names.lookup x = some .local := by first | exact .inl rfl | exact .inr rfl | assumption) :
    XS X ec W (.Assign [.Name x pos'] e pos) (sSet i m) := imS (ps_set hN hi hx h hs hf) fun D σ H h => by
  obtain ⟨φ, S, ρ, c⟩ := Cs.start h
  refine rd_imp (c.bind (rel1 := Rel X.K) monoC_true) fun x H1 ⟨φ1, S1, a, ra, ex, c1⟩ => ?_
  obtain ⟨r, e, q⟩ := c1.run
  cases e
  exact q φ1 H1 _ (Ext.refl _ _ _) c1.ok (c1.env.set i ra)

/-! ### targets -/
abbrev Tgt := D → Env → Sto → Option Env
abbrev Tgts := List D → Env → Sto → Option Env
def TgS (K : PySem.W.Frag) (g : TG) (t : Tgt) (vs : List Nat) : Prop := ∀ (φ : Nat → Addr) (S : Sto) (H : Hp) (σ : L2.St) (ρ : Env) (v : V) (d : D) (ρ' : Env), Ok K φ S H → RelE K φ S.length H ρ σ → Rel K φ S.length H v d → t d ρ S = some ρ' →
  ∀ Q : L2.St → Hp → Prop, (∀ σ', RelE K φ S.length H ρ' σ' → wipe σ' vs = wipe σ vs → Q σ' H) → g v σ H Q
def TgsS (K : PySem.W.Frag) (g : TGs) (t : Tgts) (vs : List Nat) : Prop := ∀ (φ : Nat → Addr) (S : Sto) (H : Hp) (σ : L2.St) (ρ : Env) (v : List V) (d : List D) (ρ' : Env), Ok K φ S H → RelE K φ S.length H ρ σ → Rels K φ S.length H v d → t d ρ S = some ρ' →
  ∀ Q : L2.St → Hp → Prop, (∀ σ', RelE K φ S.length H ρ' σ' → wipe σ' vs = wipe σ vs → Q σ' H) → g v σ H Q
theorem wipe_set {v : Option V} : ∀ {σ : L2.St} {vs : List Nat} {i : Nat}, i ∈ vs → wipe (σ.set i v) vs = wipe σ vs
  | σ, w :: vs, i, h => by
    unfold wipe
    by_cases c : i ∈ vs
    · rw [wipe_set c]
    · have e : i = w := by
        rcases List.mem_cons.mp h with h | h
        · exact h
        · exact absurd h c
      subst e
      have z : ∀ (vs : List Nat) (σ : L2.St), i ∉ vs → wipe (σ.set i v) vs = (wipe σ vs).set i v := by
        intro vs
        induction vs with
        | nil => intro σ _; rfl
        | cons a l ih =>
          intro σ hn
          unfold wipe
          rw [ih σ fun q => hn (List.mem_cons_of_mem _ q)]
          exact List.set_comm _ _ (fun q => hn (by rw [q]; exact List.mem_cons_self))
      rw [z vs σ c, List.set_set]
def tN (i : Nat) : Tgt := fun d ρ _ => some (ρ.set i (some d))
theorem tgs_name {K : PySem.W.Frag} {i : Nat} {vs : List Nat} (h : i ∈ vs := by decide) : TgS K (gName i) (tN i) vs := fun φ S H σ ρ v d ρ' ok env r e Q q => by
  cases e
  exact q _ (env.set i r) (wipe_set h)
def tNil' : Tgts := fun ds ρ _ => match ds with
  | [] => some ρ
  | _ => none
def tCons' (t : Tgt) (ts : Tgts) : Tgts := fun ds ρ S => match ds with
  | d :: ds => (t d ρ S).bind fun ρ1 => ts ds ρ1 S
  | [] => none
theorem tgs_nil {K : PySem.W.Frag} {vs : List Nat} : TgsS K gNil tNil' vs := fun φ S H σ ρ v d ρ' ok env r e Q q => by
  cases r with
  | nil => cases e; exact ⟨rfl, q σ env rfl⟩
  | cons _ _ => cases e
theorem tgs_cons {K : PySem.W.Frag} {vs : List Nat} {g : TG} {gs : TGs} {t : Tgt} {ts : Tgts} (h : TgS K g t vs) (h' : TgsS K gs ts vs) : TgsS K (gCons g gs) (tCons' t ts) vs := fun φ S H σ ρ v d ρ' ok env r e Q q => by
  cases r with
  | nil => cases e
  | cons r rs =>
    rename_i v vs' d ds
    unfold tCons' at e
    dsimp only at e
    cases e1 : t d ρ S with
    | none => rw [e1] at e; cases e
    | some ρ1 =>
      rw [e1] at e
      refine ⟨_, _, rfl, h φ S H σ ρ v d ρ1 ok env r e1 _ fun σ1 env1 w1 => h' φ S H σ1 ρ1 _ ds ρ' ok env1 rs e _ fun σ2 env2 w2 => q σ2 env2 (w2.trans w1)⟩
def tTp (n : Nat) (ts : Tgts) : Tgt := fun d ρ S => match d with
  | .tup ds => if ds.length = n then ts ds ρ S else none
  | _ => none
theorem tgs_tup {K : PySem.W.Frag} {vs : List Nat} {gs : TGs} {ts : Tgts} {n : Nat} (h : TgsS K gs ts vs) : TgS K (gTup K n gs) (tTp n ts) vs := fun φ S H σ ρ v d ρ' ok env r e Q q => by
  cases r with
  | tup h1 r1 =>
    rename_i a xs ds
    unfold tTp at e
    dsimp only at e
    split at e
    · rename_i hl
      exact ⟨a, xs, rfl, h1, by rw [r1.len]; exact hl, h φ S H σ ρ xs ds ρ' ok env r1 e Q q⟩
    · cases e
  | _ => cases e
def sAsg (t : Tgt) (m : M D) : MS := sB m fun d ρ S => (t d ρ S).map fun ρ' => .nx ρ' S
theorem x_asg {tg e : Expr} {m : M D} {pos : Pos} {g : TG} {t : Tgt} {vs : List Nat} (h : XE X ec W e m) (hg : PG X tg g) (ht : TgS X.K g t vs) (hs : swapsWithSole [tg] e pos.line X.env = pure false := by rfl) (hw : swappedStores [tg] e X.env = pure none := by rfl)
    (h1 : (assignEach [tg] X.env).map (·.2) = [assign tg X.env] := by rfl) : XS X ec W (.Assign [tg] e pos) (sAsg t m) := imS (ps_asg h hg hs hw h1) fun D σ H h => by
  obtain ⟨φ, S, ρ, c⟩ := Cs.start h
  refine rd_imp (c.bind (rel1 := Rel X.K) monoC_true) fun x H1 ⟨φ1, S1, a, ra, ex, c1⟩ => ?_
  obtain ⟨r, e, q⟩ := c1.run
  cases e1 : t a ρ S1 with
  | none => rw [e1] at e; cases e
  | some ρ' =>
    rw [e1] at e
    cases e
    exact ht φ1 S1 H1 σ ρ x a ρ' c1.ok c1.env ra e1 _ fun σ' env' _ => q φ1 H1 σ' (Ext.refl _ _ _) c1.ok env'
/-- a, b = x, y -/
def sPar (i j : Nat) (ms : M (List D)) : MS := sB ms fun ds ρ S => match ds with
  | [a, b] => some (.nx ((ρ.set i (some a)).set j (some b)) S)
  | _ => none
theorem x_par {i j : Nat} {x y : Str} {a b : Expr} {ms : M (List D)} {px py pt : Pos} {kt k2 pt2} {pos : Pos} (hc : X.calm = true) (hN : X.N.Nodup) (ha : XA X ec W [a, b] ms) (hi : X.N[i]? = some x := by rfl) (hj : X.N[j]? = some y := by rfl) (hij : i ≠ j := by decide)
    (hx : X.env.scope.names.lookup x = some .local := by rfl) (hy : X.env.scope.names.lookup y = some .local := by rfl)
    (hw : swappedStores [.Tuple [.Name x px, .Name y py] kt pt] (.Tuple [a, b] k2 pt2) X.env = pure (some [x, y]) := by rfl) : XS X ec W (.Assign [.Tuple [.Name x px, .Name y py] kt pt] (.Tuple [a, b] k2 pt2) pos) (sPar i j ms) :=
  imS (ps_par hc hN hi hj hij hx hy ha hw) fun D σ H h => by
  obtain ⟨φ, S, ρ, c⟩ := Cs.start h
  refine rd_imp (c.bind (rel1 := Rels X.K) monoC_true) fun xs H1 ⟨φ1, S1, as, ra, ex, c1⟩ => ?_
  obtain ⟨r, e, q⟩ := c1.run
  cases ra with
  | nil => cases e
  | cons r1 t1 =>
    cases t1 with
    | nil => cases e
    | cons r2 t2 =>
      cases t2 with
      | nil => cases e; exact ⟨_, _, rfl, q φ1 H1 _ (Ext.refl _ _ _) c1.ok ((c1.env.set i r1).set j r2)⟩
      | cons _ _ => cases e

/-! ### while -/
def loopW (c : M Bool) (b : MS) : Nat → MS
  | 0 => fun _ _ => none
  | n + 1 => fun ρ S => match c ρ S with
    | none => none
    | some (.exc x S1) => some (.exc x ρ S1)
    | some (.val false S1) => some (.nx ρ S1)
    | some (.val true S1) => match b ρ S1 with
      | some (.nx ρ' S') => loopW c b n ρ' S'
      | some (.cnt ρ' S') => loopW c b n ρ' S'
      | some (.brk ρ' S') => some (.nx ρ' S')
      | r => r
@[irreducible] def fuel : Nat := 2 ^ 3000000
theorem lt_fuel {n k : Nat} (h : n < 2 ^ k) (hk : k ≤ 3000000) : n < fuel := by
  unfold fuel
  exact Nat.lt_of_lt_of_le h (Nat.pow_le_pow_right (by decide) hk)
def sWhile (c : M Bool) (b : MS) : MS := loopW c b fuel
theorem x_while {c : Expr} {body : List Stmt} {mc : M Bool} {mb : MS} {pos : Pos} (hp : PassesOwn (model X.prog X.w) X.A X.env X.xe) (hc : XT X ec W c mc) (hb : XSs X ec W body mb) : XS X ec W (.While c body [] pos) (sWhile mc mb) := imS (ps_while hp hc hb) fun D σ H h => by
  obtain ⟨φ, S, ρ, ok, env, r, e, q⟩ := h
  refine ⟨fun m σ H => ∃ φ S ρ r, Ok X.K φ S H ∧ RelE X.K φ S.length H ρ σ ∧ loopW mc mb m ρ S = some r ∧ KS X.K ec W φ S.length H D r, ⟨fuel, φ, S, ρ, r, ok, env, e, q⟩, fun m σ H h => ?_⟩
  obtain ⟨φ, S, ρ, r, ok, env, e, q⟩ := h
  cases m with
  | zero => cases e
  | succ m =>
    unfold loopW at e
    split at e
    · cases e
    · rename_i x S1 e1
      cases e
      exact ⟨φ, S, ρ, ok, env, _, e1, fun φ' H' ex ok' => q φ' H' σ ex ok' (env.mono ok ex)⟩
    · rename_i S1 e1
      cases e
      refine ⟨φ, S, ρ, ok, env, _, e1, fun φ' H' b ex ok' rb => ?_⟩
      cases rb
      exact iteF (q φ' H' σ ex ok' (env.mono ok ex))
    · rename_i S1 e1
      refine ⟨φ, S, ρ, ok, env, _, e1, fun φ' H' b ex ok' rb => ?_⟩
      cases rb
      refine iteT ⟨fun σ H => ∃ φ S ρ r, Ok X.K φ S H ∧ RelE X.K φ S.length H ρ σ ∧ loopW mc mb m ρ S = some r ∧ KS X.K ec W φ S.length H D r, fun σ' H' h => ⟨m, Nat.lt_succ_self _, h⟩, φ', S1, ρ, ok', env.mono ok ex, ?_⟩
      split at e
      · rename_i ρ' S' e2
        exact ⟨_, e2, fun φ2 H2 σ2 ex2 ok2 env2 => ⟨φ2, S', ρ', r, ok2, env2, e, q.ext (ex.trans ex2)⟩⟩
      · rename_i ρ' S' e2
        exact ⟨_, e2, fun φ2 H2 σ2 ex2 ok2 env2 => ⟨φ2, S', ρ', r, ok2, env2, e, q.ext (ex.trans ex2)⟩⟩
      · rename_i ρ' S' e2
        cases e
        exact ⟨_, e2, fun φ2 H2 σ2 ex2 ok2 env2 => q φ2 H2 σ2 (ex.trans ex2) ok2 env2⟩
      · rename_i h1 h2 h3
        refine ⟨r, e, ?_⟩
        cases r with
        | nx ρ' S' => exact absurd e (h1 ρ' S')
        | cnt ρ' S' => exact absurd e (h2 ρ' S')
        | brk ρ' S' => exact absurd e (h3 ρ' S')
        | ret d S' => exact KS.ext ex q
        | exc c ρ' S' => exact KS.ext ex q

/-! ### what is walked -/
abbrev Sq := Nat → Sto → Option (Option D)
def SeqR (K : PySem.W.Frag) : RelT It Sq := fun φ n H J sq => ∀ φ' S' H', Ok K φ' S' H' → Ext φ n H φ' S'.length H' → ∀ i,
  (∀ d, sq i S' = some (some d) → J.go i H' ∧ ∀ x H'', J.yld i H' x H'' → Ext φ' S'.length H' φ' S'.length H'' ∧ Ok K φ' S' H'' ∧ Rel K φ' S'.length H'' x d) ∧ (sq i S' = some none → J.stop i H')
instance {K : PySem.W.Frag} : Mono K (SeqR K) := ⟨fun k e r φ' S' H' ok ex => r φ' S' H' ok (e.trans ex)⟩
def XI (X : Cx) (ec : Str → Value) (W : WX) (tg iter : Expr) (m : M Sq) : Prop := PI X tg iter (rd X.K ec (SeqR X.K) W m)
theorem imI {tg iter : Expr} {t t' : TI} (h : PI X tg iter t) (i : ∀ σ H Q, t' σ H Q → t σ H Q) : PI X tg iter t' := ⟨fun pins s σ H Q I q => h.run pins s σ H Q I (i σ H Q q)⟩
theorem orI {tg iter : Expr} {t t' : TI} (h : PI X tg iter t) (h' : PI X tg iter t') : PI X tg iter (fun σ H Q => t σ H Q ∨ t' σ H Q) := ⟨fun pins s σ H Q I q => q.elim (h.run pins s σ H Q I) (h'.run pins s σ H Q I)⟩
def sqIt (xs : List D) : Sq := fun i _ => some xs[i]?
def sqRef (id : Nat) : Sq := fun i S => match S[id]? with
  | some (.lst xs) => some xs[i]?
  | _ => none
def sqOf (S : Sto) : D → Option Sq
  | .tup xs => some (sqIt xs)
  | .fro xs => some (sqIt xs)
  | .ref i => match S[i]? with
    | some (.lst _) => some (sqRef i)
    | _ => none
  | _ => none
def mSeq (m : M D) : M Sq := mB m fun d _ S => match sqOf S d with
  | some q => some (.val q S)
  | none => none
end Rf
namespace Rf
open PySem PySem.Spec PyProof.Rows L2

variable {X : Cx} {ec : Str → Value} {W : WX}
theorem seqR_tup {K : PySem.W.Frag} {φ : Nat → Addr} {S : Sto} {H : Hp} {a : Addr} {xs : List V} {ds : List D} (k : Ok K φ S H) (h : SqT K H a xs) (r : Rels K φ S.length H xs ds) : SeqR K φ S.length H (Itt K a) (sqIt ds) := fun φ' S' H' ok ex i => by
  have h' := k.rdT ex h
  have r' := r.mono k ex
  refine ⟨fun d e => ?_, fun e => ?_⟩
  · have e : ds[i]? = some d := by unfold sqIt at e; exact Option.some.inj e
    obtain ⟨v, hv, rv⟩ := r'.get i e
    refine ⟨⟨xs, v, h', hv⟩, fun x H'' y => ?_⟩
    obtain ⟨eH, y⟩ := y
    subst eH
    have := y xs h'
    rw [hv] at this
    cases this
    exact ⟨Ext.refl _ _ _, ok, rv⟩
  · have e : ds[i]? = none := by unfold sqIt at e; exact Option.some.inj e
    exact ⟨xs, h', by rw [r'.len]; exact List.getElem?_eq_none_iff.mp e⟩
theorem seqR_fro {K : PySem.W.Frag} {φ : Nat → Addr} {S : Sto} {H : Hp} {a : Addr} {xs : List V} {ds : List D} (k : Ok K φ S H) (h : Fro K φ S.length H a xs) (r : Rels K φ S.length H xs ds) : SeqR K φ S.length H (Itl K a) (sqIt ds) := fun φ' S' H' ok ex i => by
  have h' := (k.rdF ex h).sq
  have r' := r.mono k ex
  refine ⟨fun d e => ?_, fun e => ?_⟩
  · have e : ds[i]? = some d := by unfold sqIt at e; exact Option.some.inj e
    obtain ⟨v, hv, rv⟩ := r'.get i e
    refine ⟨⟨xs, v, h', hv⟩, fun x H'' y => ?_⟩
    obtain ⟨eH, y⟩ := y
    subst eH
    have := y xs h'
    rw [hv] at this
    cases this
    exact ⟨Ext.refl _ _ _, ok, rv⟩
  · have e : ds[i]? = none := by unfold sqIt at e; exact Option.some.inj e
    exact ⟨xs, h', by rw [r'.len]; exact List.getElem?_eq_none_iff.mp e⟩
theorem seqR_ref {K : PySem.W.Frag} {φ : Nat → Addr} {S : Sto} {H : Hp} {j : Nat} (k : Ok K φ S H) (hj : j < S.length) : SeqR K φ S.length H (Itl K (φ j)) (sqRef j) := fun φ' S' H' ok ex i => by
  have ea : φ' j = φ j := ex.same j hj
  refine ⟨fun d e => ?_, fun e => ?_⟩
  · unfold sqRef at e
    split at e
    · rename_i ds hx
      have e : ds[i]? = some d := Option.some.inj e
      obtain ⟨xs, h1, r1⟩ := ok.lst hx
      obtain ⟨v, hv, rv⟩ := r1.get i e
      rw [ea] at h1
      refine ⟨⟨xs, v, SqL.of h1, hv⟩, fun x H'' y => ?_⟩
      obtain ⟨eH, y⟩ := y
      subst eH
      have := y xs (SqL.of h1)
      rw [hv] at this
      cases this
      exact ⟨Ext.refl _ _ _, ok, rv⟩
    · cases e
  · unfold sqRef at e
    split at e
    · rename_i ds hx
      have e : ds[i]? = none := Option.some.inj e
      obtain ⟨xs, h1, r1⟩ := ok.lst hx
      rw [ea] at h1
      exact ⟨xs, SqL.of h1, by rw [r1.len]; exact List.getElem?_eq_none_iff.mp e⟩
    · cases e
/-- a list or a tuple -/
theorem xi_seq {tg e : Expr} {m : M D} (h : XE X ec W e m) : XI X ec W tg e (mSeq m) := imI (orI (pi_list h) (pi_tup h)) fun σ H Q h => by
  obtain ⟨φ, S, ρ, c⟩ := Cf.start h
  obtain ⟨r0, e0, q0⟩ := c.run
  unfold mSeq mB at e0
  cases hm : m ρ S with
  | none => rw [hm] at e0; cases e0
  | some z =>
    cases z with
    | exc x S1 =>
      rw [hm] at e0
      cases e0
      exact .inl ⟨φ, S, ρ, c.ok, c.env, _, hm, q0⟩
    | val d S1 =>
      rw [hm] at e0
      dsimp only at e0
      cases hq : sqOf S1 d with
      | none => rw [hq] at e0; cases e0
      | some sq =>
        rw [hq] at e0
        cases e0
        cases d with
        | tup ds =>
          refine .inr ⟨φ, S, ρ, c.ok, c.env, _, hm, fun φ' H' b ex ok rb => ?_⟩
          cases rb with
          | tup h1 r1 =>
            cases hq
            exact ⟨_, rfl, ⟨_, h1⟩, q0 φ' H' _ ex ok (seqR_tup ok h1 r1)⟩
        | fro ds =>
          refine .inl ⟨φ, S, ρ, c.ok, c.env, _, hm, fun φ' H' b ex ok rb => ?_⟩
          cases rb with
          | fro h1 r1 =>
            cases hq
            exact ⟨_, rfl, ⟨_, h1.sq⟩, q0 φ' H' _ ex ok (seqR_fro ok h1 r1)⟩
        | ref j =>
          unfold sqOf at hq
          dsimp only at hq
          split at hq
          · rename_i ds hl
            cases hq
            refine .inl ⟨φ, S, ρ, c.ok, c.env, _, hm, fun φ' H' b ex ok rb => ?_⟩
            cases rb with
            | ref hj =>
              obtain ⟨xs, h1, r1⟩ := ok.lst hl
              exact ⟨_, rfl, ⟨_, SqL.of h1⟩, q0 φ' H' _ ex ok (seqR_ref ok hj)⟩
          · cases hq
        | _ => cases hq

/-! ### ranges -/
def rngD (lo : Int) (n : Nat) : List D := (List.range n).map fun k => .int (lo + (k : Nat))
theorem rngD_get {lo : Int} {n i : Nat} {d : D} (h : (rngD lo n)[i]? = some d) : i < n ∧ d = .int (lo + (i : Nat)) := by
  unfold rngD at h
  rw [List.getElem?_map] at h
  by_cases c : i < n
  · rw [List.getElem?_range c] at h
    cases h
    exact ⟨c, rfl⟩
  · rw [List.getElem?_eq_none (by rw [List.length_range]; omega)] at h
    cases h
theorem rngD_none {lo : Int} {n i : Nat} (h : (rngD lo n)[i]? = none) : n ≤ i := by
  have := List.getElem?_eq_none_iff.mp h
  unfold rngD at this
  rw [List.length_map, List.length_range] at this
  exact this
theorem seqR_rng {K : PySem.W.Frag} {φ : Nat → Addr} {n : Nat} {H : Hp} {lo : Int} {m : Nat} : SeqR K φ n H (Itr lo m) (sqIt (rngD lo m)) := fun φ' S' H' ok ex i => by
  refine ⟨fun d e => ?_, fun e => ?_⟩
  · obtain ⟨h1, h2⟩ := rngD_get (show (rngD lo m)[i]? = some d from Option.some.inj e)
    refine ⟨h1, fun x H'' y => ?_⟩
    obtain ⟨eH, y⟩ := y
    subst eH
    subst y
    subst h2
    exact ⟨Ext.refl _ _ _, ok, .int _⟩
  · exact rngD_none (Option.some.inj e)
def rngOk (i : Int) : Bool := decide (-(2 ^ 62) ≤ i) && decide (i < 2 ^ 62)
theorem rngOk_of {i : Int} (h : rngOk i = true) : -(2 ^ 62) ≤ i ∧ i < 2 ^ 62 := by
  unfold rngOk at h
  rw [Bool.and_eq_true] at h
  exact ⟨of_decide_eq_true h.1, of_decide_eq_true h.2⟩
def mRng1 (ms : M (List D)) : M Sq := mB ms fun as _ S => match as with
  | [.int j] => if rngOk j = true then some (.val (sqIt (rngD 0 j.toNat)) S) else none
  | _ => none
theorem xi_rng1 {tg a : Expr} {ms : M (List D)} {p pos : Pos} (ha : XA X ec W [a] ms) (hm : X.mg "range" = none) (hg : Gl X "range" := by rfl) (hs : starEach [a] X.env = [(false, eval a X.env)] := by rfl) : XI X ec W tg (.Call (.Name "range" p) [a] [] pos) (mRng1 ms) := imI (pi_range1 hg hm ha hs) fun σ H Q h => by
  obtain ⟨φ, S, ρ, c⟩ := Cf.start h
  refine rd_imp (c.bind (rel1 := Rels X.K) monoC_true) fun xs H1 ⟨φ1, S1, as, ra, c1⟩ => ?_
  obtain ⟨r, e, q⟩ := c1.run
  split at e
  · split at e
    · rename_i j hj
      cases e
      cases ra with
      | cons r1 t1 =>
        cases r1
        cases t1
        obtain ⟨h1, h2⟩ := rngOk_of hj
        exact ⟨j, rfl, h1, h2, q φ1 H1 _ (Ext.refl _ _ _) c1.ok seqR_rng⟩
    · cases e
  · cases e
def mRng2 (ms : M (List D)) : M Sq := mB ms fun as _ S => match as with
  | [.int i, .int j] => if (rngOk i && rngOk j) = true then some (.val (sqIt (rngD i (j - i).toNat)) S) else none
  | _ => none
theorem xi_rng2 {tg a b : Expr} {ms : M (List D)} {p pos : Pos} (ha : XA X ec W [a, b] ms) (hm : X.mg "range" = none) (hg : Gl X "range" := by rfl) (hs : starEach [a, b] X.env = [(false, eval a X.env), (false, eval b X.env)] := by rfl) (hs2 : starEach [b] X.env = [(false, eval b X.env)] := by rfl) : XI X ec W tg (.Call (.Name "range" p) [a, b] [] pos) (mRng2 ms) := imI (pi_range2 hg hm ha hs hs2) fun σ H Q h => by
  obtain ⟨φ, S, ρ, c⟩ := Cf.start h
  refine rd_imp (c.bind (rel1 := Rels X.K) monoC_true) fun xs H1 ⟨φ1, S1, as, ra, c1⟩ => ?_
  obtain ⟨r, e, q⟩ := c1.run
  split at e
  · split at e
    · rename_i i j hj
      cases e
      cases ra with
      | cons r1 t1 =>
        cases r1
        cases t1 with
        | cons r2 t2 =>
          cases r2
          cases t2
          rw [Bool.and_eq_true] at hj
          obtain ⟨h1, h2⟩ := rngOk_of hj.1
          obtain ⟨h3, h4⟩ := rngOk_of hj.2
          exact ⟨i, j, rfl, ⟨h1, h2, h3, h4⟩, q φ1 H1 _ (Ext.refl _ _ _) c1.ok seqR_rng⟩
    · cases e
  · cases e
/-! from the end -/
def revD (lo : Int) (n : Nat) : List D := (List.range n).map fun k => .int (lo + (n : Nat) - 1 - (k : Nat))
theorem seqR_rev {K : PySem.W.Frag} {φ : Nat → Addr} {n : Nat} {H : Hp} {lo : Int} {m : Nat} : SeqR K φ n H (Itc (lo + (m : Nat) - 1) (-1) m) (sqIt (revD lo m)) := fun φ' S' H' ok ex i => by
  have hg : ∀ {d}, (revD lo m)[i]? = some d → i < m ∧ d = .int (lo + (m : Nat) - 1 + (i : Nat) * (-1)) := fun {d} h => by
    unfold revD at h
    rw [List.getElem?_map] at h
    by_cases c : i < m
    · rw [List.getElem?_range c] at h
      cases h
      refine ⟨c, ?_⟩
      have : lo + (m : Int) - 1 - (i : Int) = lo + (m : Int) - 1 + (i : Int) * (-1) := by omega
      show D.int (lo + (m : Int) - 1 - (i : Int)) = _
      rw [this]
    · rw [List.getElem?_eq_none (by rw [List.length_range]; omega)] at h
      cases h
  refine ⟨fun d e => ?_, fun e => ?_⟩
  · obtain ⟨h1, h2⟩ := hg (show (revD lo m)[i]? = some d from Option.some.inj e)
    refine ⟨h1, fun x H'' y => ?_⟩
    obtain ⟨eH, y⟩ := y
    subst eH
    subst y
    subst h2
    exact ⟨Ext.refl _ _ _, ok, .int _⟩
  · have := List.getElem?_eq_none_iff.mp (show (revD lo m)[i]? = none from Option.some.inj e)
    unfold revD at this
    rw [List.length_map, List.length_range] at this
    exact this
def mRev1 (m : M D) : M Sq := mB m fun a _ S => match a with
  | .int j => if rngOk j = true then some (.val (sqIt (revD 0 j.toNat)) S) else none
  | _ => none
theorem xi_rev1 {tg a : Expr} {m : M D} {p pos p' pos' : Pos} (ha : XE X ec W a m) (hm : X.mg "reversed" = none) (hm' : X.mg "range" = none) (hg : Gl X "reversed" := by rfl) (hg' : Gl X "range" := by rfl) (na : starEach [a] X.env = (false, eval a X.env) :: starEach [] X.env := by rfl)
    (hs : starEach [.Call (.Name "range" p') [a] [] pos'] X.env = (false, eval (.Call (.Name "range" p') [a] [] pos') X.env) :: starEach [] X.env := by rfl) : XI X ec W tg (.Call (.Name "reversed" p) [.Call (.Name "range" p') [a] [] pos'] [] pos) (mRev1 m) := imI (pi_revR hg hm (prg_1 hg' hm' ha na) hs) fun σ H Q h => by
  obtain ⟨φ, S, ρ, c⟩ := Cf.start h
  refine rd_imp (c.bind (rel1 := Rel X.K) monoC_true) fun x H1 ⟨φ1, S1, a, ra, c1⟩ => ?_
  obtain ⟨r, e, q⟩ := c1.run
  split at e
  · split at e
    · rename_i j hj
      cases e
      cases ra
      obtain ⟨h1, h2⟩ := rngOk_of hj
      refine ⟨j, rfl, by omega, by omega, h1, h2, ?_⟩
      have := q φ1 H1 _ (Ext.refl _ _ _) c1.ok (seqR_rev (lo := 0) (m := j.toNat))
      rw [show (j - 0).toNat = j.toNat by omega]
      exact this
    · cases e
  · cases e
def mRev2 (m m' : M D) : M Sq := mB m fun a => mB m' fun b _ S => match a, b with
  | .int i, .int j => if (rngOk i && rngOk j) = true then some (.val (sqIt (revD i (j - i).toNat)) S) else none
  | _, _ => none
theorem xi_rev2 {tg a b : Expr} {m m' : M D} {p pos p' pos' : Pos} (ha : XE X ec W a m) (hb : XE X ec W b m') (hm : X.mg "reversed" = none) (hm' : X.mg "range" = none) (hg : Gl X "reversed" := by rfl) (hg' : Gl X "range" := by rfl) (na : starEach [a, b] X.env = (false, eval a X.env) :: starEach [b] X.env := by rfl)
    (nb : starEach [b] X.env = (false, eval b X.env) :: starEach [] X.env := by rfl) (hp : (backTo pos' (starEach [b] X.env)).any (·.1) = false := by rfl)
    (hs : starEach [.Call (.Name "range" p') [a, b] [] pos'] X.env = (false, eval (.Call (.Name "range" p') [a, b] [] pos') X.env) :: starEach [] X.env := by rfl) : XI X ec W tg (.Call (.Name "reversed" p) [.Call (.Name "range" p') [a, b] [] pos'] [] pos) (mRev2 m m') := imI (pi_revR hg hm (prg_2 hg' hm' ha hb na nb hp) hs) fun σ H Q h => by
  obtain ⟨φ, S, ρ, c⟩ := Cf.start h
  refine rd_imp (c.bind (rel1 := Rel X.K) monoC_true) fun x H1 ⟨φ1, S1, a, ra, c1⟩ => ?_
  refine rd_imp ((c1.carry ra).bind (rel1 := Rel X.K) monoC_rel) fun y H2 ⟨φ2, S2, b, rb, c2⟩ => ?_
  obtain ⟨r, e, q⟩ := c2.run
  have ra := c2.car
  cases ra with
  | int i =>
    cases rb with
    | int j =>
      dsimp only at e
      split at e
      · rename_i hj
        cases e
        rw [Bool.and_eq_true] at hj
        obtain ⟨h1, h2⟩ := rngOk_of hj.1
        obtain ⟨h3, h4⟩ := rngOk_of hj.2
        exact ⟨i, j, rfl, rfl, h1, h2, h3, h4, q φ2 H2 _ (Ext.refl _ _ _) c2.ok seqR_rev⟩
      · cases e
    | _ => cases e
  | _ => cases e

/-! ### for -/
def loopQ (t : Tgt) (b : MS) (sq : Sq) : Nat → Nat → MS
  | 0, _ => fun _ _ => none
  | n + 1, i => fun ρ S => match sq i S with
    | none => none
    | some none => some (.nx ρ S)
    | some (some d) => match t d ρ S with
      | none => none
      | some ρ1 => match b ρ1 S with
        | some (.nx ρ' S') => loopQ t b sq n (i + 1) ρ' S'
        | some (.cnt ρ' S') => loopQ t b sq n (i + 1) ρ' S'
        | some (.brk ρ' S') => some (.nx ρ' S')
        | r => r
def sFor (t : Tgt) (it : M Sq) (b : MS) : MS := sB it fun sq => loopQ t b sq fuel 0
theorem x_for {tg iter : Expr} {body : List Stmt} {mi : M Sq} {mb : MS} {g : TG} {t : Tgt} {vs : List Nat} {pos : Pos} (hp : PassesOwn (model X.prog X.w) X.A X.env X.xe) (hc : X.calm = true) (hi : XI X ec W tg iter mi) (hg : PG X tg g) (ht : TgS X.K g t vs) (hb : XSs X ec W body mb)
    (hs : ∀ x, foldedSetIterable iter X.env x = pure x := by intro _; rfl) : XS X ec W (.For tg iter body [] pos) (sFor t mi mb) := imS (ps_for hp hc hi hg hb hs) fun D σ H h => by
  obtain ⟨φ, S, ρ, c⟩ := Cs.start h
  refine rd_imp (c.bind (rel1 := SeqR X.K) monoC_true) fun J H1 ⟨φ1, S1, sq, rJ, ex, c1⟩ => ?_
  refine ⟨fun i m σ H => ∃ φ S ρ r, Ok X.K φ S H ∧ RelE X.K φ S.length H ρ σ ∧ SeqR X.K φ S.length H J sq ∧ loopQ t mb sq m i ρ S = some r ∧ KS X.K ec W φ S.length H D r, ?_, ?_⟩
  · obtain ⟨r, e, q⟩ := c1.run
    exact ⟨fuel, φ1, S1, ρ, r, c1.ok, c1.env, rJ, e, q⟩
  · rintro i m σ H ⟨φ, S, ρ, r, ok, env, rJ, e, q⟩
    cases m with
    | zero => cases e
    | succ m =>
      unfold loopQ at e
      have RJ := rJ φ S H ok (Ext.refl _ _ _) i
      split at e
      · cases e
      · rename_i e1
        cases e
        exact .inl ⟨RJ.2 e1, q φ H σ (Ext.refl _ _ _) ok env⟩
      · rename_i d e1
        obtain ⟨go, yld⟩ := RJ.1 d e1
        refine .inr ⟨go, fun σ H => ∃ φ S ρ r, Ok X.K φ S H ∧ RelE X.K φ S.length H ρ σ ∧ SeqR X.K φ S.length H J sq ∧ loopQ t mb sq m (i + 1) ρ S = some r ∧ KS X.K ec W φ S.length H D r, fun σ' H' h => ⟨m, Nat.lt_succ_self _, h⟩, fun x H' y => ?_⟩
        obtain ⟨ex1, ok1, rx⟩ := yld x H' y
        split at e
        · cases e
        · rename_i ρ1 e2
          refine ht φ S H' σ ρ x d ρ1 ok1 (env.mono ok ex1) rx e2 _ fun σ1 env1 _ => ?_
          refine ⟨φ, S, ρ1, ok1, env1, ?_⟩
          split at e
          · rename_i ρ' S' e3
            exact ⟨_, e3, fun φ2 H2 σ2 ex2 ok2 env2 => ⟨φ2, S', ρ', r, ok2, env2, Mono.mono ok (ex1.trans ex2) rJ, e, q.ext (ex1.trans ex2)⟩⟩
          · rename_i ρ' S' e3
            exact ⟨_, e3, fun φ2 H2 σ2 ex2 ok2 env2 => ⟨φ2, S', ρ', r, ok2, env2, Mono.mono ok (ex1.trans ex2) rJ, e, q.ext (ex1.trans ex2)⟩⟩
          · rename_i ρ' S' e3
            cases e
            exact ⟨_, e3, fun φ2 H2 σ2 ex2 ok2 env2 => q φ2 H2 σ2 (ex1.trans ex2) ok2 env2⟩
          · rename_i h1 h2 h3
            refine ⟨r, e, ?_⟩
            cases r with
            | nx ρ' S' => exact absurd e (h1 ρ' S')
            | cnt ρ' S' => exact absurd e (h2 ρ' S')
            | brk ρ' S' => exact absurd e (h3 ρ' S')
            | ret d S' => exact KS.ext ex1 q
            | exc c ρ' S' => exact KS.ext ex1 q

/-! ### comprehensions -/
def wipeE (ρ : Env) : List Nat → Env
  | [] => ρ
  | v :: vs => (wipeE ρ vs).set v none
theorem RelE.wipe {K : PySem.W.Frag} {φ : Nat → Addr} {n : Nat} {H : Hp} {ρ : Env} {σ : L2.St} (r : RelE K φ n H ρ σ) : ∀ vs : List Nat, RelE K φ n H (wipeE ρ vs) (wipe σ vs)
  | [] => r
  | v :: vs => (RelE.wipe r vs).unset v
def loopC (t : Tgt) (c : M Bool) (el : M D) (sq : Sq) (ρ0 : Env) (n0 : Nat) : Nat → Nat → Sto → Option Sto
  | 0, _, _ => none
  | n + 1, i, S => match sq i S with
    | none => none
    | some none => some S
    | some (some d) => match t d ρ0 S with
      | none => none
      | some ρ1 => match c ρ1 S with
        | some (.val false S1) => loopC t c el sq ρ0 n0 n (i + 1) S1
        | some (.val true S1) => match el ρ1 S1 with
          | some (.val y S2) => match S2[n0]? with
            | some (.lst acc) => if acc.length < 1000000 then loopC t c el sq ρ0 n0 n (i + 1) (S2.set n0 (.lst (acc ++ [y]))) else none
            | _ => none
          | _ => none
        | _ => none
def mLc (vs : List Nat) (t : Tgt) (it : M Sq) (c : M Bool) (el : M D) : M D := mB it fun sq ρ S => match loopC t c el sq (wipeE ρ vs) S.length fuel 0 (S ++ [.lst []]) with
  | some S' => some (.val (.ref S.length) S')
  | none => none
def W0 : WX := fun _ _ _ _ => False
def mYes : M Bool := mRet true
/-- the tests of a comprehension -/
def XTs (X : Cx) (ec : Str → Value) (W : WX) (ifs : List Expr) (m : M Bool) : Prop := PTs X ifs (rd X.K ec RelB W m)
theorem xts_nil : XTs X ec W [] mYes := ⟨fun pins s σ H Q I h => pts_nil.run pins s σ H Q I (rd_ret (rel := RelB) (fun _ _ _ => rfl) h)⟩
theorem xts_one {c : Expr} {m : M Bool} (h : XT X ec W c m) : XTs X ec W [c] m := pts_one h
theorem lc_red {K : PySem.W.Frag} {mi : M Sq} {mt : M Bool} {me : M D} {g : TG} {t : Tgt} {vs : List Nat} (ht : TgS K g t vs) {σ : L2.St} {H : Hp} {Q : VK} (h : rd K ec (Rel K) W (mLc vs t mi mt me) σ H Q) :
    tLc (rd K ec (SeqR K) W mi) g (rd K ec RelB W0 mt) (rd K ec (Rel K) W0 me) vs σ H Q := by
  obtain ⟨φ, S, ρ, c⟩ := Cf.start h
  refine rd_imp (c.bind (rel1 := SeqR K) monoC_true) fun J H1 ⟨φ1, S1, sq, rJ, c1⟩ => ?_
  intro Da hD
  obtain ⟨r0, e0, q0⟩ := c1.run
  cases hl : loopC t mt me sq (wipeE ρ vs) S1.length fuel 0 (S1 ++ [.lst []]) with
  | none => rw [hl] at e0; cases e0
  | some SF =>
    rw [hl] at e0
    cases e0
    have ex0 : Ext φ1 S1.length H1 (nxt φ1 S1.length Da) (S1 ++ [O.lst []]).length (upd H1 Da (.lst [])) := ext_new' hD
    have ok0 : Ok K (nxt φ1 S1.length Da) (S1 ++ [O.lst []]) (upd H1 Da (.lst [])) := c1.ok.new hD (.lst .nil)
    refine ⟨fun i m H => ∃ φ S, Ok K φ S H ∧ Ext φ1 S1.length H1 φ S.length H ∧ φ S1.length = Da ∧ S1.length < S.length ∧ loopC t mt me sq (wipeE ρ vs) S1.length m i S = some SF, ?_, ?_⟩
    · exact ⟨fuel, _, _, ok0, ex0, nxt_new, by rw [List.length_append, List.length_singleton]; exact Nat.lt_succ_self _, hl⟩
    · rintro i m H ⟨φ, S, ok, ex, eD, hn, e⟩
      cases m with
      | zero => cases e
      | succ m =>
        unfold loopC at e
        have RJ := rJ φ S H ok ex i
        split at e
        · cases e
        · rename_i e1
          cases e
          refine .inl ⟨RJ.2 e1, ?_⟩
          have := q0 φ H (.ref Da) ex ok (by rw [← eD]; exact .ref hn)
          exact this
        · rename_i d e1
          obtain ⟨go, yld⟩ := RJ.1 d e1
          refine .inr ⟨go, fun H => ∃ φ S, Ok K φ S H ∧ Ext φ1 S1.length H1 φ S.length H ∧ φ S1.length = Da ∧ S1.length < S.length ∧ loopC t mt me sq (wipeE ρ vs) S1.length m (i + 1) S = some SF, fun H' h => ⟨m, Nat.lt_succ_self _, h⟩, fun x H' y => ?_⟩
          obtain ⟨ex1, ok1, rx⟩ := yld x H' y
          split at e
          · cases e
          · rename_i ρ1 e2
            have envw : RelE K φ S.length H' (wipeE ρ vs) (wipe σ vs) := ((c1.env.mono c1.ok (ex.trans ex1)).wipe vs)
            refine ht φ S H' _ _ x d ρ1 ok1 envw rx e2 _ fun σ1 env1 w1 => ⟨?_, ?_⟩
            · have ww : ∀ (vs : List Nat) (σ : L2.St), L2.wipe (L2.wipe σ vs) vs = L2.wipe σ vs := by
                intro vs σ
                have : ∀ (us : List Nat), (∀ u ∈ us, u ∈ vs) → L2.wipe (L2.wipe σ us) vs = L2.wipe σ vs := by
                  intro us
                  induction us with
                  | nil => intro _; rfl
                  | cons u us ih =>
                    intro hu
                    show L2.wipe ((L2.wipe σ us).set u none) vs = _
                    rw [wipe_set (hu u List.mem_cons_self), ih fun v hv => hu v (List.mem_cons_of_mem _ hv)]
                exact this vs fun _ h => h
              rw [w1, ww]
            · have exT : Ext φ1 S1.length H1 φ S.length H' := ex.trans ex1
              split at e
              · rename_i Sa e3
                refine ⟨φ, S, ρ1, ok1, env1, _, e3, fun φ2 H2 b ex2 ok2 rb => ?_⟩
                cases rb
                exact iteF ⟨φ2, Sa, ok2, exT.trans ex2, by rw [ex2.same _ hn]; exact eD, Nat.lt_of_lt_of_le hn ex2.le, e⟩
              · rename_i Sa e3
                refine ⟨φ, S, ρ1, ok1, env1, _, e3, fun φ2 H2 b ex2 ok2 rb => ?_⟩
                cases rb
                refine iteT ?_
                split at e
                · rename_i yv Sb e4
                  refine ⟨φ2, Sa, ρ1, ok2, env1.mono ok1 ex2, _, e4, fun φ3 H3 b ex3 ok3 rb => ?_⟩
                  have hn3 : S1.length < Sb.length := Nat.lt_of_lt_of_le hn (Nat.le_trans ex2.le ex3.le)
                  have eD3 : φ3 S1.length = Da := by rw [ex3.same _ (Nat.lt_of_lt_of_le hn ex2.le), ex2.same _ hn]; exact eD
                  split at e
                  · rename_i acc e5
                    split at e
                    · rename_i hsz
                      obtain ⟨us, h6, r6⟩ := ok3.lst e5
                      refine ⟨us, by rw [← eD3]; exact h6, by rw [r6.len]; exact Nat.lt_of_lt_of_le hsz (by decide), φ3, _, ?_, ?_, eD3, ?_, e⟩
                      · rw [← eD3]
                        exact ok3.put hn3 (.lst (r6.app (.cons rb .nil)))
                      · rw [← eD3, List.length_set]
                        exact ((exT.trans ex2).trans ex3).trans (ext_put ok3 hn3)
                      · rw [List.length_set]; exact hn3
                    · cases e
                  · cases e
                · cases e
              · cases e
theorem x_lc {elt tg iter : Expr} {ifs : List Expr} {scope : Scope} {own : List (Str × Nat)} {pos : Pos} {mi : M Sq} {mt : M Bool} {me : M D} {g : TG} {t : Tgt} (hc : X.calm = true) (hN : X.N.Nodup) (hi : XI X ec W tg iter mi) (ok : BlkOk X.N X.env.scope scope own)
    (hg : ∀ (s : Shared) (H : Hp) (C : Addr) (cl : List (Str × Addr)) (fp : List Addr), PG (X.blk s H scope (compEnvC scope cl C X.env) fp) tg g) (ht : TgS X.K g t (own.map (·.2)))
    (hif : ∀ (s : Shared) (H : Hp) (C : Addr) (cl : List (Str × Addr)) (fp : List Addr), XTs (X.blk s H scope (compEnvC scope cl C X.env) fp) ec W0 ifs mt)
    (he : ∀ (s : Shared) (H : Hp) (C : Addr) (cl : List (Str × Addr)) (fp : List Addr), XE (X.blk s H scope (compEnvC scope cl C X.env) fp) ec W0 elt me) (hs : ∀ x, foldedSetIterable iter X.env x = pure x := by intro _; rfl) :
    XE X ec W (.ListComp elt [⟨tg, iter, ifs, 0⟩] scope pos) (mLc (own.map (·.2)) t mi mt me) := imE (pe_lc (tt := rd X.K ec RelB W0 mt) (te := rd X.K ec (Rel X.K) W0 me) hc hN hi ok hg (fun s H C cl fp => hif s H C cl fp) (fun s H C cl fp => he s H C cl fp) hs) fun σ H Q h => lc_red ht h
theorem x_setLc {i : Nat} {y : Str} {py : Pos} {elt tg iter : Expr} {ifs : List Expr} {scope : Scope} {own : List (Str × Nat)} {pos spos : Pos} {mi : M Sq} {mt : M Bool} {me : M D} {g : TG} {t : Tgt} (hc : X.calm = true) (hN : X.N.Nodup) (hi : XI X ec W tg iter mi) (ok : BlkOk X.N X.env.scope scope own)
    (hg : ∀ (s : Shared) (H : Hp) (C : Addr) (cl : List (Str × Addr)) (fp : List Addr), PG (X.blk s H scope (compEnvC scope cl C X.env) fp) tg g) (ht : TgS X.K g t (own.map (·.2)))
    (hif : ∀ (s : Shared) (H : Hp) (C : Addr) (cl : List (Str × Addr)) (fp : List Addr), XTs (X.blk s H scope (compEnvC scope cl C X.env) fp) ec W0 ifs mt)
    (he : ∀ (s : Shared) (H : Hp) (C : Addr) (cl : List (Str × Addr)) (fp : List Addr), XE (X.blk s H scope (compEnvC scope cl C X.env) fp) ec W0 elt me) (hs : ∀ x, foldedSetIterable iter X.env x = pure x := by intro _; rfl)
    (hy : X.N[i]? = some y := by rfl) (hyl : X.env.scope.names.lookup y = some .local := by rfl) (hsw : swapsWith (.ListComp elt [⟨tg, iter, ifs, 0⟩] scope pos) (some (.Name y py)) spos.line X.env = pure true) :
    XS X ec W (.Assign [.Name y py] (.ListComp elt [⟨tg, iter, ifs, 0⟩] scope pos) spos) (sSet i (mLc (own.map (·.2)) t mi mt me)) := imS (ps_setLc (tt := rd X.K ec RelB W0 mt) (te := rd X.K ec (Rel X.K) W0 me) hc hN hy hyl hsw hi ok hg (fun s H C cl fp => hif s H C cl fp) (fun s H C cl fp => he s H C cl fp) hs) fun D σ H h => by
  obtain ⟨φ, S, ρ, c⟩ := Cs.start h
  refine lc_red (W := W) (ec := ec) ht (rd_imp (c.bind (rel1 := Rel X.K) monoC_true) fun x H1 ⟨φ1, S1, a, ra, ex, c1⟩ => ?_)
  obtain ⟨r, e, q⟩ := c1.run
  cases e
  exact q φ1 H1 _ (Ext.refl _ _ _) c1.ok (c1.env.set i ra)
end Rf
namespace Rf
open PySem PySem.Spec PyProof.Rows L2

variable {X : Cx} {ec : Str → Value} {W : WX}
/-! ### is -/
def gIs : G2 := fun a b S => match b with
  | .non => match a with
    | .non => some (.bl true, S)
    | _ => some (.bl false, S)
  | .bl k => match a with
    | .bl c => some (.bl (decide (c = k)), S)
    | .ty _ => none
    | _ => some (.bl false, S)
  | _ => none
theorem op_isB : OpR X (compareOp .Is) (fun x y H Q => ∃ b, y = .bl b ∧ (∀ n, x ≠ .ty n) ∧ Q (.bl (decide (x = .bl b))) H) := by
  intro pins s σ H x y v u Q I rx ry h
  obtain ⟨b, rfl, ht, q⟩ := h
  cases ry
  cases x with
  | bl c =>
    cases rx
    by_cases e : c = b
    · subst e
      exact wpAny_is_self rfl ⟨.bl true, H, I, rfl, by simpa using q⟩
    · exact wpAny_is_other rfl (fun z => e (Value.bool.inj z)) ⟨.bl false, H, I, rfl, by simpa [e] using q⟩
  | non => cases rx; exact wpAny_is_other rfl (fun z => nomatch z) ⟨.bl false, H, I, rfl, by simpa using q⟩
  | int i => obtain ⟨t, rfl⟩ := rx; exact wpAny_is_other rfl (fun z => nomatch z) ⟨.bl false, H, I, rfl, by simpa using q⟩
  | str i => obtain ⟨t, rfl⟩ := rx; exact wpAny_is_other rfl (fun z => nomatch z) ⟨.bl false, H, I, rfl, by simpa using q⟩
  | byt i => obtain ⟨t, rfl⟩ := rx; exact wpAny_is_other rfl (fun z => nomatch z) ⟨.bl false, H, I, rfl, by simpa using q⟩
  | flt i => obtain ⟨t, rfl⟩ := rx; exact wpAny_is_other rfl (fun z => nomatch z) ⟨.bl false, H, I, rfl, by simpa using q⟩
  | ref a => cases rx; exact wpAny_is_other rfl (fun z => nomatch z) ⟨.bl false, H, I, rfl, by simpa using q⟩
  | ty n => exact absurd rfl (ht n)
theorem opS_is : OpS X (compareOp .Is) gIs := ⟨_, op_isN.or op_isB, fun φ S H x y a b c S' ok ra rb e Q q => by
  cases rb with
  | non =>
    refine .inl ⟨rfl, ?_⟩
    cases ra <;> (cases e; exact q φ H _ (Ext.refl _ _ _) ok (.bl _))
  | bl k =>
    refine .inr ⟨k, rfl, ?_, ?_⟩
    · intro n z
      subst z
      cases ra
      cases e
    · cases ra <;> first
        | (cases e; refine q φ H _ (Ext.refl _ _ _) ok ?_; simp only [V.bl.injEq]; exact .bl _)
        | (cases e; refine q φ H _ (Ext.refl _ _ _) ok ?_; exact .bl _)
        | cases e
  | _ => cases e⟩

/-! ### == of what has no parts -/
def gEq : G2 := fun a b S => match a, b with
  | .int i, .int j => some (.bl (decide (i = j)), S)
  | .str i, .str j => some (.bl (decide (i = j)), S)
  | .bl i, .bl j => some (.bl (decide (i = j)), S)
  | .non, .non => some (.bl true, S)
  | .int _, .non => some (.bl false, S)
  | .non, .int _ => some (.bl false, S)
  | .int _, .str _ => some (.bl false, S)
  | .str _, .int _ => some (.bl false, S)
  | _, _ => none
theorem opS_eq : OpS X (compareOp .Eq) gEq := ⟨_, op_eq, fun φ S H x y a b c S' ok ra rb e Q q => by
  cases ra <;> cases rb <;> first
    | (cases e; done)
    | (cases e; refine ⟨rfl, q φ H _ (Ext.refl _ _ _) ok ?_⟩; simp only [V.int.injEq, V.str.injEq, V.bl.injEq]; exact .bl _)
    | (cases e; exact ⟨rfl, q φ H _ (Ext.refl _ _ _) ok (.bl _)⟩)⟩
def gNe : G2 := fun a b S => match a, b with
  | .int i, .int j => some (.bl (!decide (i = j)), S)
  | .str i, .str j => some (.bl (!decide (i = j)), S)
  | .bl i, .bl j => some (.bl (!decide (i = j)), S)
  | .non, .non => some (.bl false, S)
  | .int _, .non => some (.bl true, S)
  | .non, .int _ => some (.bl true, S)
  | .int _, .str _ => some (.bl true, S)
  | .str _, .int _ => some (.bl true, S)
  | _, _ => none
theorem opS_ne : OpS X (compareOp .NotEq) gNe := ⟨_, op_ne, fun φ S H x y a b c S' ok ra rb e Q q => by
  cases ra <;> cases rb <;> first
    | (cases e; done)
    | (cases e; refine ⟨rfl, q φ H _ (Ext.refl _ _ _) ok ?_⟩; simp only [V.int.injEq, V.str.injEq, V.bl.injEq]; exact .bl _)
    | (cases e; exact ⟨rfl, q φ H _ (Ext.refl _ _ _) ok (.bl _)⟩)⟩

/-! ### xs.append(e) -/
def mApp (mo me : M D) : M D := mB mo fun o ρ S => match o with
  | .ref i => match S[i]? with
    | some (.lst _) => (mB me fun d _ S2 => match S2[i]? with
      | some (.lst xs) => if xs.length < 1000000 then some (.val .non (S2.set i (.lst (xs ++ [d])))) else none
      | _ => none) ρ S
    | _ => none
  | _ => none
theorem x_app {o e : Expr} {mo me : M D} {apos cpos : Pos} (ho : XE X ec W o mo) (he : XE X ec W e me) (hbase : attributeBase o "append" X.env (eval o X.env) = eval o X.env := by rfl)
    (hfew : ((backTo cpos (starEach (e :: []) X.env)).all (fun x => !x.1) && (backToKw cpos (keywordEach [] X.env)).all (fun x => x.1.isSome) && decide ((e :: []).length + ([] : List Keyword).length + (if ([] : List Keyword).isEmpty then 0 else 1) < 30)) = true := by rfl)
    (hline : (apos.endLine == cpos.line) = true := by rfl) (hs : starEach (e :: []) X.env = (false, eval e X.env) :: starEach [] X.env := by rfl) (hplain : (backTo cpos (starEach [] X.env)).any (·.1) = false := by rfl) :
    XE X ec W (.Call (.Attribute o "append" apos) [e] [] cpos) (mApp mo me) :=
  imE (pe_bm PySem.F.plainAttrs_list PySem.F.slot_list_append PySem.F.type_list_append mt_append ho (pa_cons he pa_nil hs) hbase hfew hline hs hplain) fun σ H Q h => by
  obtain ⟨φ, S, ρ, c⟩ := Cf.start h
  refine rd_imp (c.bind (rel1 := Rel X.K) monoC_true) fun x H1 ⟨φ1, S1, a, ra, c1⟩ => ?_
  obtain ⟨r, e, q⟩ := c1.run
  cases ra with
  | @ref i hi =>
    dsimp only at e
    split at e
    · rename_i xs0 hx0
      obtain ⟨us0, h0, r0⟩ := c1.ok.lst hx0
      refine ⟨.inl ⟨rfl, us0, SqL.of h0⟩, ?_⟩
      have c2 : Cf X.K ec (Rel X.K) W (fun φ n H => Rel X.K φ n H (.ref (φ1 i)) (.ref i)) φ1 S1 ρ σ H1 Q ((mB me fun d _ S2 => match S2[i]? with
        | some (.lst xs) => if xs.length < 1000000 then some (.val .non (S2.set i (.lst (xs ++ [d])))) else none
        | _ => none) ρ) := ⟨c1.ok, c1.env, .ref hi, r, e, q⟩
      refine rd_imp (c2.bind (rel1 := Rel X.K) monoC_rel) fun y H2 ⟨φ2, S2, d, rd2, c3⟩ => ?_
      obtain ⟨r3, e3, q3⟩ := c3.run
      have cr := c3.car
      have ea : φ1 i = φ2 i ∧ i < S2.length := by
        generalize hz : V.ref (φ1 i) = z at cr
        cases cr with
        | ref h => exact ⟨V.ref.inj hz, h⟩
      split at e3
      · rename_i xs hx
        split at e3
        · rename_i hsz
          cases e3
          obtain ⟨us, h1, r1⟩ := c3.ok.lst hx
          refine ⟨φ1 i, us, y, rfl, rfl, by rw [ea.1]; exact h1, by rw [r1.len]; exact Nat.lt_of_lt_of_le hsz (by decide), ?_⟩
          rw [ea.1]
          refine q3 φ2 _ .non ?_ (c3.ok.put ea.2 (.lst (r1.app (.cons rd2 .nil)))) .non
          rw [List.length_set]
          exact ext_put c3.ok ea.2
        · cases e3
      · cases e3
    · cases e
  | _ => cases e

/-! ### x op= e -/
def sAug (i : Nat) (g : G2) (m : M D) : MS := fun ρ S => match ρ[i]? with
  | some (some d0) => sB m (fun d ρ S => match g d0 d S with
    | some (c, S') => some (.nx (ρ.set i (some c)) S')
    | none => none) ρ S
  | _ => none
theorem x_aug {x : Str} {e : Expr} {m : M D} {op : Operator} {g : G2} {pos pos' : Pos} (i : Nat) (hN : X.N.Nodup) (ho : OpS X (inplaceOp op) g) (h : XE X ec W e m) (hi : X.N[i]? = some x := by rfl) (hx : Loc X.env.scope x := by first | exact Or.inl rfl | exact Or.inr rfl) (hf : X.fn x = true ∨ X.env.scope.names.lookup x = some .local := by first | exact .inl rfl | exact .inr rfl | assumption) :
    XS X ec W (.AugAssign (.Name x pos') op e pos) (sAug i g m) := by
  obtain ⟨r2, hr2, hi2⟩ := ho
  refine imS (ps_aug hN hi hx h (show PIp X op r2 from hr2) hf) fun D σ H h => ?_
  obtain ⟨φ, S, ρ, ok, env, r, e, q⟩ := h
  unfold sAug at e
  split at e
  · rename_i d0 hd0
    obtain ⟨v0, hv0, rv0⟩ := env.at_ i d0 hd0
    refine ⟨v0, hv0, ?_⟩
    have c : Cs X.K ec W (fun φ n H => Rel X.K φ n H v0 d0) φ S ρ σ H D (sB m (fun d ρ S => match g d0 d S with
      | some (c, S') => some (.nx (ρ.set i (some c)) S')
      | none => none) ρ) := ⟨ok, env, rv0, r, e, q⟩
    refine rd_imp (c.bind (rel1 := Rel X.K) monoC_rel) fun y H1 ⟨φ1, S1, d, rd1, ex, c1⟩ => ?_
    obtain ⟨r1, e1, q1⟩ := c1.run
    cases hg : g d0 d S1 with
    | none => rw [hg] at e1; cases e1
    | some p =>
      obtain ⟨z, S'⟩ := p
      rw [hg] at e1
      cases e1
      exact hi2 φ1 S1 H1 v0 y d0 d z S' c1.ok c1.car rd1 hg _ fun φ' H' v ex' ok' rv => q1 φ' H' _ ex' ok' ((c1.env.mono c1.ok ex').set i rv)
  · cases e
def giAdd : G2 := gI (fun _ _ => true) fun i j => .int (i + j)
theorem opS_iadd : OpS X (inplaceOp .Add) giAdd := opS_I0 iop_add fun _ _ _ _ _ => .int _
def giSub : G2 := gI (fun _ _ => true) fun i j => .int (i - j)
theorem opS_isub : OpS X (inplaceOp .Sub) giSub := opS_I0 iop_sub fun _ _ _ _ _ => .int _

/-! ### a def -/
def fnOf (n : Nat) (m : MS) : List D → Sto → Option (R D) := fun ds S => match m (ds.map some ++ List.replicate (n - ds.length) none) S with
  | some (.nx _ S') => some (.val .non S')
  | some (.ret d S') => some (.val d S')
  | some (.exc c _ S') => some (.exc c S')
  | _ => none
theorem start_rel {K : PySem.W.Frag} {φ : Nat → Addr} {n : Nat} {H : Hp} {N : List Str} {vs : List V} {ds : List D} (r : Rels K φ n H vs ds) : RelE K φ n H (ds.map some ++ List.replicate (N.length - ds.length) none) (L2.start N vs) := by
  refine ⟨?_, fun i d h => ?_⟩
  · unfold L2.start
    rw [List.length_append, List.length_append, List.length_map, List.length_map, List.length_replicate, List.length_replicate, r.len]
  · have hi : i < ds.length := by
      by_cases c : i < ds.length
      · exact c
      · rw [List.getElem?_append_right (by rw [List.length_map]; omega), List.getElem?_replicate] at h
        split at h <;> cases h
    rw [List.getElem?_append_left (by rw [List.length_map]; exact hi), List.getElem?_map] at h
    cases e : ds[i]? with
    | none => rw [e] at h; cases h
    | some d' =>
      rw [e] at h
      cases h
      obtain ⟨v, hv, rv⟩ := r.get i e
      refine ⟨v, ?_, rv⟩
      unfold L2.start
      rw [List.getElem?_append_left (by rw [List.length_map, r.len]; exact hi), List.getElem?_map, hv]
      rfl
section
variable {P : Program} {w : World} {K : PySem.W.Frag} {mg : Str → Option Value} {base : Heap}
abbrev bodyX (P : Program) (w : World) (K : PySem.W.Frag) (mg : Str → Option Value) (base : Heap) (N : List Str) (qual : Str) (st : Stmt) (f : Addr) (cdv : Value) (A : Around) (outer : List PySem.Env) (s : Shared) (H : Hp) (E : XK) : Cx := cxOf (L2.CX P w) P w K mg base N qual (defScope st) f cdv A outer s H E
theorem fn_ok {x qual : Str} {st : Stmt} {f : Addr} {fd : FuncData} {N ps : List Str} {k n : Nat} {m : MS} (F : Fun K x qual st f fd) (Sc : FnScope N ps (defScope st)) (hn : N.length = n)
    (hb : ∀ (cdv : Value) (A : Around) (outer : List PySem.Env) (s : Shared) (H : Hp) (E : XK), Room k (bodyX P w K mg base N qual st f cdv A outer s H E).A → XSs (bodyX P w K mg base N qual st f cdv A outer s H E) ec (fun cls d _ H => E cls d H) (defBody st) m) :
    FnOk P w K mg base (L2.CX P w) (k + 1) f fd ps (spF K ec ps.length (fnOf n m)) := by
  subst hn
  refine F.okX Sc (fun vs H Q E h => ?_) (fun cdv A outer s H vs Q E hr h => ⟨_, hb cdv A outer s H E hr, ?_⟩)
  · obtain ⟨_, _, _, _, _, hl, _⟩ := h
    exact hl
  · obtain ⟨φ, S, ds, ok, rs, hl, r, e, q⟩ := h
    unfold fnOf at e
    refine ⟨φ, S, _, ok, start_rel (N := N) rs, ?_⟩
    split at e
    · rename_i ρ' S' e1
      cases e
      exact ⟨_, e1, fun φ' H' σ' ex ok' env' => q φ' H' .non ex ok' .non⟩
    · rename_i d S' e1
      cases e
      exact ⟨_, e1, q⟩
    · rename_i c ρ' S' e1
      cases e
      exact ⟨_, e1, fun φ' H' σ' ex ok' env' => q φ' H' ex ok'⟩
    · cases e
/-- a def of which nothing is known -/
theorem fn_none {f : Addr} {fd : FuncData} {ps : List Str} {k n : Nat} : FnOk P w K mg base (L2.CX P w) k f fd ps (spF K ec n fun _ _ => none) := by
  refine ⟨fun vs H Q E h => ?_, fun A outer s H args us vs Q E hr e0 hb hv h => ?_⟩
  · obtain ⟨_, _, _, _, _, _, _, e, _⟩ := h
    cases e
  · obtain ⟨_, _, _, _, _, _, _, e, _⟩ := h
    cases e
end
/-- raise C('..') -/
def sRaise (c : Str) : MS := fun ρ S => some (.exc c ρ S)
theorem x_raise {e : Expr} {x : Str} {v : Value} {pos : Pos} (hc : X.calm = true) (tk : Takes X W) (h : PMk X e (fun _ H Q => Q v none H)) (hv : ec x = v) : XS X ec W (.Raise (some e) none pos) (sRaise x) := imS (ps_raise hc tk h) fun D σ H h => by
  obtain ⟨φ, S, ρ, ok, env, r, e, q⟩ := h
  cases e
  have := q φ H σ (Ext.refl _ _ _) ok env
  rw [hv] at this
  exact this
/-- code that is not come to -/
def sNo : MS := fun _ _ => none
theorem x_no {st : Stmt} : XS X ec W st sNo := imS ps_never fun D σ H h => by
  obtain ⟨φ, S, ρ, ok, env, r, e, q⟩ := h
  cases e
end Rf
namespace Rf
open PySem PySem.Spec PyProof.Rows L2
variable {X : Cx} {ec : Str → Value} {W : WX}
/-! ### is not -/
def gIsNot : G2 := fun a b S => match gIs a b S with
  | some (.bl k, S') => some (.bl (!k), S')
  | _ => none
theorem op_isNotB : OpR X (compareOp .IsNot) (fun x y H Q => ∃ b, y = .bl b ∧ (∀ n, x ≠ .ty n) ∧ Q (.bl (!decide (x = .bl b))) H) := by
  intro pins s σ H x y v u Q I rx ry h
  obtain ⟨b, rfl, ht, q⟩ := h
  cases ry
  cases x with
  | bl c =>
    cases rx
    by_cases e : c = b
    · subst e
      exact wpAny_isNot_self rfl ⟨.bl false, H, I, rfl, by simpa using q⟩
    · exact wpAny_isNot_other rfl (fun z => e (Value.bool.inj z)) ⟨.bl true, H, I, rfl, by simpa [e] using q⟩
  | non => cases rx; exact wpAny_isNot_other rfl (fun z => nomatch z) ⟨.bl true, H, I, rfl, by simpa using q⟩
  | int i => obtain ⟨t, rfl⟩ := rx; exact wpAny_isNot_other rfl (fun z => nomatch z) ⟨.bl true, H, I, rfl, by simpa using q⟩
  | str i => obtain ⟨t, rfl⟩ := rx; exact wpAny_isNot_other rfl (fun z => nomatch z) ⟨.bl true, H, I, rfl, by simpa using q⟩
  | byt i => obtain ⟨t, rfl⟩ := rx; exact wpAny_isNot_other rfl (fun z => nomatch z) ⟨.bl true, H, I, rfl, by simpa using q⟩
  | flt i => obtain ⟨t, rfl⟩ := rx; exact wpAny_isNot_other rfl (fun z => nomatch z) ⟨.bl true, H, I, rfl, by simpa using q⟩
  | ref a => cases rx; exact wpAny_isNot_other rfl (fun z => nomatch z) ⟨.bl true, H, I, rfl, by simpa using q⟩
  | ty n => exact absurd rfl (ht n)
theorem opS_isnot : OpS X (compareOp .IsNot) gIsNot := ⟨_, op_notN.or op_isNotB, fun φ S H x y a b c S' ok ra rb e Q q => by
  cases rb with
  | non =>
    refine .inl ⟨rfl, ?_⟩
    cases ra <;> (cases e; exact q φ H _ (Ext.refl _ _ _) ok (.bl _))
  | bl k =>
    refine .inr ⟨k, rfl, ?_, ?_⟩
    · intro n z
      subst z
      cases ra
      cases e
    · cases ra <;> first
        | (cases e; refine q φ H _ (Ext.refl _ _ _) ok ?_; simp only [V.bl.injEq]; exact .bl _)
        | (cases e; refine q φ H _ (Ext.refl _ _ _) ok ?_; exact .bl _)
        | cases e
  | _ => cases e⟩
/-! ### x.bit_length() -/
def gBits : G1 := fun a S => match a with
  | .int i => some (.int ((Builtin.Int.intBits i : Nat) : Int), S)
  | _ => none
theorem x_bits {o : Expr} {m : M D} {apos pos : Pos} (ho : XE X ec W o m) (hbase : attributeBase o "bit_length" X.env (eval o X.env) = eval o X.env := by rfl) (hline : (apos.endLine == pos.line) = true := by rfl) : XE X ec W (.Call (.Attribute o "bit_length" apos) [] [] pos) (mUn gBits m) := imE (pe_bits ho hbase hline) fun σ H Q h => by
  obtain ⟨φ, S, ρ, c⟩ := Cf.start h
  refine rd_imp (c.bind (rel1 := Rel X.K) monoC_true) fun x H1 ⟨φ1, S1, a, ra, c1⟩ => ?_
  obtain ⟨r', e, q⟩ := c1.run
  cases a <;> first | cases e | skip
  cases ra
  exact ⟨_, rfl, q φ1 H1 _ (Ext.refl _ _ _) c1.ok (.int _)⟩
/-! ### tuples of the module -/
theorem rel_ints2 {K : PySem.W.Frag} {a : Addr} {dd : Option Addr} {i j : Int} {t u : Tok} {n : Nat} {sl : Array (Option Value)} (l : K.lookup a = some ⟨.type "tuple", dd, .seq #[.int i t, .int j u] n, sl⟩) : ∀ φ m H, Rel K φ m H (.ref a) (.tup [.int i, .int j]) := fun φ m H =>
  .tup (xs := [.int i, .int j]) (.inr ⟨_, _, n, l, rfl, rfl, (by show 2 ≤ sizeLine; decide), .cons ⟨t, rfl⟩ (.cons ⟨u, rfl⟩ .nil)⟩) (.cons (.int i) (.cons (.int j) .nil))
end Rf
namespace Rf
open PySem PySem.Spec PyProof.Rows L2
section
variable {X : Cx}
/-! ### texts repeated, texts to ints -/
theorem inv_tok {pins : List (Addr × Obj)} {σ : L2.St} {H : Hp} {s : Shared} {k : Nat} (h : Inv X pins σ H s) : Inv X pins σ H { heap := s.heap, gens := s.gens, drawn := s.drawn, toks := k, os := s.os } := by
  cases h
  constructor <;> assumption
theorem op_mul_str : OpR X (binaryOp .Mult) (fun x y H Q => ∃ a n, x = V.str a ∧ y = V.int n ∧ MulOk a n ∧ Q (V.str (Txt.mul a n)) H) := by
  intro pins s σ H x y v u Q inv rx ry h
  obtain ⟨a, n, rfl, rfl, ok, q⟩ := h
  obtain ⟨t, rfl⟩ := rx
  obtain ⟨t', rfl⟩ := ry
  exact SB.mul ok fun t k => ⟨V.str (Txt.mul a n), H, inv_tok inv, ⟨t, rfl⟩, q⟩
theorem mulok1 {a : Str} {n : Int} (h : a.length = 1) (hn : n.natAbs ≤ 1000) : MulOk a n := by
  refine ⟨?_, fun h1 h2 => ?_, fun h1 h2 => ?_⟩
  · rw [Bool.or_eq_false_iff]
    exact ⟨decide_eq_false (by omega), decide_eq_false (by omega)⟩
  · rw [h]
    have : (1 : Int) ≤ (2 ^ 63 - 1) / n := Int.le_ediv_of_mul_le (by omega) (by omega)
    omega
  · rw [h]
    unfold Builtin.Str.tooLong
    refine decide_eq_false ?_
    have : sizeLine = sizeLine := rfl
    have k : (1000 : Nat) < sizeLine := by decide
    omega
def gRep : G2 := fun a b S => match a, b with
  | .str x, .int n => if decide (x.length = 1) && decide (n.natAbs ≤ 1000) then some (.str (Txt.mul x n), S) else none
  | _, _ => none
theorem opS_rep : OpS X (binaryOp .Mult) gRep := by
  refine ⟨_, op_mul_str, fun φ S H x y a b d S' ok ra rb e Q q => ?_⟩
  unfold gRep at e
  split at e
  · split at e
    · rename_i i j h
      cases e
      cases ra
      cases rb
      rw [Bool.and_eq_true] at h
      exact ⟨i, j, rfl, rfl, mulok1 (of_decide_eq_true h.1) (of_decide_eq_true h.2), q φ H _ (Ext.refl _ _ _) ok (.str _)⟩
    · cases e
  · cases e
def gMulT : G2 := orG gMul gRep
theorem opS_mulT : OpS X (binaryOp .Mult) gMulT := opS_mul.or opS_rep
def gIntS : GN := fun as S => match as with
  | [.str a] => if a.length ≤ 640 then (intText? a).map fun n => (.int n, S) else none
  | _ => none
theorem callS_intS : CallS X (.type "int") gIntS := ⟨_, call_int_str, fun φ S H xs as c S' ok ra e Q q => by
  unfold gIntS at e
  split at e
  · rename_i a
    split at e
    · rename_i h
      cases hn : intText? a with
      | none => rw [hn] at e; cases e
      | some n =>
        rw [hn] at e
        cases e
        cases ra with
        | cons r t =>
          cases r
          cases t
          exact ⟨_, n, rfl, hn, h, q φ H _ (Ext.refl _ _ _) ok (.int _)⟩
    · cases e
  · cases e⟩
def gIntT : GN := fun as S => match gInt as S with
  | some z => some z
  | none => gIntS as S
theorem callS_intT : CallS X (.type "int") gIntT := callS_int.or callS_intS
/-- the ints of 1 and some 0s -/
theorem ten_text : ∀ n : Fin 40, ∃ m : Nat, intText? (Str.ofString "1" ++ Txt.mul (Str.ofString "0") (n.val : Int)) = some (m : Int) ∧ m < 2 ^ 140 ∧ (Str.ofString "1" ++ Txt.mul (Str.ofString "0") (n.val : Int)).length ≤ 640 := by
  intro n
  refine ⟨10 ^ n.val, ?_⟩
  revert n
  decide +kernel
end
end Rf
namespace Rf
open PySem PySem.Spec PyProof.Rows L2
/-- try, with one class -/
def sTry (b : MS) (x : Str) (h : MS) : MS := fun ρ S => match b ρ S with
  | some (.exc c ρ' S') => if c = x then h ρ' S' else none
  | r => r
theorem exm_self {K : PySem.W.Frag} {S : Addr} (h1 : PySem.W.subIn K (.ref S) (.type "BaseException") = some true) (h2 : PySem.W.isClsIn K S = true) (h3 : PySem.W.typeIn K (.ref S) = some (.type "type")) (h4 : PySem.W.subIn K (.ref S) (.ref S) = some true) :
    PySem.W.exmOne K (.ref S) (.ref S) = some true := by
  have e1 : (PySem.W.subIn K (.ref S) (.type "BaseException") == some true) = true := by rw [h1] <;> rfl
  have e2 : ((PySem.W.clsIn K S).isSome && PySem.W.typeIn K (.ref S) == some (.type "type")) = true := by
    have h2' : (PySem.W.clsIn K S).isSome = true := h2
    rw [h2', h3] <;> rfl
  show (if (PySem.W.subIn K (.ref S) (.type "BaseException") == some true) = true then (if ((PySem.W.clsIn K S).isSome && PySem.W.typeIn K (.ref S) == some (.type "type")) = true then PySem.W.subIn K (.ref S) (.ref S) else none) else none) = some true
  rw [if_pos e1, if_pos e2]
  exact h4
theorem x_try {X : Cx} {ec : Str → Value} {W : WX} {x : Str} {c : Value} {body suite : List Stmt} {b₀ : Stmt} {np pos pos' : Pos} {b h : MS} (hs : X.stack = X.env :: X.outer) (hf : X.env.frame = some X.env.locals) (hc : Names X x c) (tk : Takes X W) (hec : ec x = c)
    (hm : PySem.W.exmOne X.K c c = some true)
    (hb : ∀ (W' : WX) (pn : List (Addr × Obj)) (xe : Value → Shared → Prop), Takes (X.tr pn xe) W' → PassesOwn (model X.prog X.w) X.A X.env xe → XSs (X.tr pn xe) ec W' body b)
    (hh : ∀ (a : Addr) (oe : Obj) (cls : Value) (d : Option Addr) (pn : List (Addr × Obj)), Zc cls d oe → (∃ vs, oe.data = Data.fields vs) → XSs (X.suite a ((a, oe) :: pn)) ec W (b₀ :: suite) h) :
    XS X ec W (.Try body [.ExceptHandler (some (.Name x np)) none (b₀ :: suite) pos'] [] [] pos) (sTry b x h) := by
  refine imS (ps_try_only (tb := fun W' => rdS X.K ec W' b) (ts := fun _ _ _ => rdS X.K ec W h) (Wout := W) hs hf hc tk (fun W' pn xe t p => hb W' pn xe t p) (fun a oe cls d pn z v => hh a oe cls d pn z v)) fun D σ H q => ?_
  obtain ⟨φ, S, ρ, ok, env, r, e, k⟩ := q
  refine ⟨φ, S, ρ, ok, env, ?_⟩
  unfold sTry at e
  split at e
  · rename_i c1 ρ' S' e1
    split at e
    · rename_i hx
      subst hx
      refine ⟨_, e1, fun φ' H' σ' ex ok' env' => ⟨true, by rw [hec]; exact hm, fun _ a _ => ?_, fun z => nomatch z⟩⟩
      exact ⟨φ', S', ρ', ok', env', r, e, k.ext ex⟩
    · cases e
  · rename_i hn
    refine ⟨r, e, ?_⟩
    cases r with
    | exc c1 ρ' S' => exact absurd e (fun y => hn _ _ _ y)
    | nx ρ' S' => exact k
    | ret d S' => exact k
    | brk ρ' S' => exact k
    | cnt ρ' S' => exact k
end Rf
namespace Rf
open PySem PySem.Spec PyProof.Rows L2
theorem slot_ty_eq : Slot "type" (Str.ofString "__eq__") "object.__eq__" := TypeEq.slot_type_eq
theorem slot_ty_ne : Slot "type" (cmpInfo CmpOp.NotEq).snd.fst "object.__ne__" := by
  refine Slot.of (owner := "object") (n := "__ne__") ?_ F.cmpSplit_ne (by decide +kernel) (by decide +kernel) (Or.inl (by decide +kernel)) ?_ (by decide +kernel)
  · rw [typeLookup_type, builtinLookup_eq_fast]
    rfl
  · rw [isSubtype_type]
    rfl
theorem slot_ty_ne' : Slot "type" (cmpInfo CmpOp.NotEq).snd.snd "object.__ne__" := slot_ty_ne
theorem ty_ne_decline {M : Model} {A : Around} {E : Value → Shared → Prop} {s : Shared} {a b : Value} {T id id' : String} {k : Bool} {Q : Value → Shared → Prop} (ha : ∀ s' : Shared, s'.TypeIs a T) (hb : ∀ s' : Shared, s'.TypeIs b T) (h1 : Slot T (cmpInfo CmpOp.NotEq).snd.fst id) (h2 : Slot T (cmpInfo CmpOp.NotEq).snd.snd id') (hv : [a, b].any Value.onHeap = false) (hk : isSame a b = pure k)
    (hc : wpAny M A (call (Value.builtin id) [a, b]) (fun v s₁ => v = Value.notImplemented ∧ wpAny M A (call (Value.builtin id') [b, a]) (fun v s₂ => v = Value.notImplemented ∧ Q (Value.bool !k) s₂) E s₁) E s) : wpAny M A (richCompare CmpOp.NotEq a b) Q E s := by
  unfold richCompare
  refine wpAny_holding ?_
  refine wpAny_bind (wpAny_cRoomFor_or (Or.inl hv) ?_)
  rw [Shared.TypeIs.oneThing_none (ha s)]
  dsimp only
  refine wpAny_bind (wpAny_typeOf (ha s) ?_)
  refine wpAny_bind (wpAny_typeOf (hb s) ?_)
  rw [if_neg (by simp)]
  refine wpAny_bind (wpAny_pure ?_)
  rw [if_neg (by simp)]
  refine wpAny_bind (wpAny_tryCompare_declines (ha s) h1 (wpAny_mono hc (fun v s₁ h₁ => ⟨h₁.1, ?_⟩) fun _ _ h => h))
  rw [if_pos (by rfl : (!false) = true)]
  refine wpAny_bind (wpAny_tryCompare_declines (hb s₁) h2 (wpAny_mono h₁.2 (fun v s₂ h₂ => ⟨h₂.1, ?_⟩) fun _ _ h => h))
  exact wpAny_bind (wpAny_rule (wpAny_bind (wpAny_of_eq hk (wpAny_pure h₂.2))))
/-- object.__ne__ of two classes -/
theorem ty_ne_entry_same {prog : Program} {w : World} {A : Around} {E : Value → Shared → Prop} {s : Shared} {X : String} {Q : PySem.Fin → Shared → Prop} (hX : ∀ s' : Shared, s'.TypeIs (Value.type X) "type") (hq : Q (PySem.Fin.done (Flow.ret (Value.bool false))) s) :
    wpAny (model prog w) A (Builtin.«object.__ne__» { pos := [Value.type X, Value.type X] }) Q E s := by
  unfold Builtin.«object.__ne__»
  refine wpAny_bind ?_
  unfold slotArgs
  refine wpAny_ite_false rfl (wpAny_ite_false rfl (wpAny_pure ?_))
  dsimp only
  refine wpAny_bind (wpAny_cRoomFor_or (.inl rfl) ?_)
  refine wpAny_bind (wpAny_callSpecialIfBound?_slot (hX s) slot_ty_eq (call_gives slot_ty_eq (hX s) F.entry_object_eq (F.args_object_eq_2 _ _) (TypeEq.object_eq_same rfl (by rw [beq_self_eq_true])) ?_))
  show wpAny _ _ _ _ _ _
  dsimp only
  refine wpAny_bind ?_
  exact wpAny_pure (wpAny_pure hq)
theorem ty_ne_entry_other {prog : Program} {w : World} {A : Around} {E : Value → Shared → Prop} {s : Shared} {X Y : String} {Q : PySem.Fin → Shared → Prop} (hX : ∀ s' : Shared, s'.TypeIs (Value.type X) "type") (hne : (Value.type X == Value.type Y) = false) (hq : Q (PySem.Fin.done (Flow.ret Value.notImplemented)) s) :
    wpAny (model prog w) A (Builtin.«object.__ne__» { pos := [Value.type X, Value.type Y] }) Q E s := by
  unfold Builtin.«object.__ne__»
  refine wpAny_bind ?_
  unfold slotArgs
  refine wpAny_ite_false rfl (wpAny_ite_false rfl (wpAny_pure ?_))
  dsimp only
  refine wpAny_bind (wpAny_cRoomFor_or (.inl rfl) ?_)
  refine wpAny_bind (wpAny_callSpecialIfBound?_slot (hX s) slot_ty_eq (call_gives slot_ty_eq (hX s) F.entry_object_eq (F.args_object_eq_2 _ _) (TypeEq.object_eq_other rfl hne) ?_))
  show wpAny _ _ _ _ _ _
  dsimp only
  exact wpAny_pure hq
theorem ty_ne_call_same {prog : Program} {w : World} {A : Around} {E : Value → Shared → Prop} {s : Shared} {X : String} {Q : Value → Shared → Prop} (hX : ∀ s' : Shared, s'.TypeIs (Value.type X) "type") (hq : Q (Value.bool false) s) :
    wpAny (model prog w) A (call (Value.builtin "object.__ne__") [.type X, .type X]) Q E s :=
  wpAny_call (codeAny_call_builtin slot_ty_ne.plain F.entry_object_ne (slot_ty_ne.check _ _ _ _ _ _ _ _ (hX s) (F.args_object_ne_2 _ _) (ty_ne_entry_same hX hq)))
theorem ty_ne_call_other {prog : Program} {w : World} {A : Around} {E : Value → Shared → Prop} {s : Shared} {X Y : String} {Q : Value → Shared → Prop} (hX : ∀ s' : Shared, s'.TypeIs (Value.type X) "type") (hne : (Value.type X == Value.type Y) = false) (hq : Q Value.notImplemented s) :
    wpAny (model prog w) A (call (Value.builtin "object.__ne__") [.type X, .type Y]) Q E s :=
  wpAny_call (codeAny_call_builtin slot_ty_ne.plain F.entry_object_ne (slot_ty_ne.check _ _ _ _ _ _ _ _ (hX s) (F.args_object_ne_2 _ _) (ty_ne_entry_other hX hne hq)))
theorem ty_ne_same {prog : Program} {w : World} {A : Around} {E : Value → Shared → Prop} {s : Shared} {Q : Value → Shared → Prop} {X : String} (hX : ∀ s' : Shared, s'.TypeIs (Value.type X) "type") (h : Q (Value.bool false) s) : wpAny (model prog w) A (compareOp CmpOp.NotEq (Value.type X) (Value.type X)) Q E s :=
  W.cmp_ofNotEq (wpAny_richCompare_same (hX s) (hX s) slot_ty_ne (by refine ty_ne_call_same hX ?_; exact ⟨fun e => (by cases e), h⟩) rfl)
theorem ty_ne_other {prog : Program} {w : World} {A : Around} {E : Value → Shared → Prop} {s : Shared} {Q : Value → Shared → Prop} {X Y : String} (hX : ∀ s' : Shared, s'.TypeIs (Value.type X) "type") (hY : ∀ s' : Shared, s'.TypeIs (Value.type Y) "type") (hne : (Value.type X == Value.type Y) = false) (h : Q (Value.bool true) s) : wpAny (model prog w) A (compareOp CmpOp.NotEq (Value.type X) (Value.type Y)) Q E s := by
  have hne' : (Value.type Y == Value.type X) = false := by
    rw [Bool.eq_false_iff] at hne ⊢
    intro e
    exact hne (by rw [beq_iff_eq] at e ⊢; exact e.symm)
  refine W.cmp_ofNotEq (ty_ne_decline (k := false) hX hY slot_ty_ne slot_ty_ne' rfl ?_ ?_)
  · rw [isSame_plain rfl, hne]
  · refine ty_ne_call_other hX hne ?_
    refine ⟨rfl, ?_⟩
    refine ty_ne_call_other hY hne' ?_
    exact ⟨rfl, h⟩
/-! ### classes as values -/
def tyK (n : String) : Bool := decide (n ∈ ["int", "bool", "str", "tuple", "list", "dict", "NoneType"])
theorem tyK_is {n : String} (h : tyK n = true) (s' : Shared) : s'.TypeIs (Value.type n) "type" := by
  have h := of_decide_eq_true h
  simp only [List.mem_cons, List.not_mem_nil, or_false] at h
  rcases h with rfl | rfl | rfl | rfl | rfl | rfl | rfl <;> rfl
section
variable {X : Cx} {ec : Str → Value} {W : WX}
theorem op_ne_ty : OpR X (compareOp .NotEq) (fun x y H Q => ∃ m n, x = V.ty m ∧ y = V.ty n ∧ tyK m = true ∧ tyK n = true ∧ Q (V.bl (!decide (m = n))) H) := by
  intro pins s σ H x y v u Q inv rx ry h
  obtain ⟨m, n, rfl, rfl, hm, hn, q⟩ := h
  cases (show v = Value.type m from rx)
  cases (show u = Value.type n from ry)
  by_cases e : m = n
  · subst e
    refine ty_ne_same (tyK_is hm) ?_
    rw [decide_eq_true rfl] at q
    exact ⟨V.bl false, H, inv, rfl, q⟩
  · refine ty_ne_other (tyK_is hm) (tyK_is hn) ?_ ?_
    · rw [Bool.eq_false_iff]
      intro k
      rw [beq_iff_eq] at k
      cases k
      exact e rfl
    · rw [decide_eq_false e] at q
      exact ⟨V.bl true, H, inv, rfl, q⟩
def gNeTy : G2 := fun a b S => match a, b with
  | .ty m, .ty n => if tyK m && tyK n then some (.bl (!decide (m = n)), S) else none
  | _, _ => none
theorem opS_neTy : OpS X (compareOp .NotEq) gNeTy := by
  refine ⟨_, op_ne_ty, fun φ S H x y a b d S' ok ra rb e Q q => ?_⟩
  unfold gNeTy at e
  split at e
  · split at e
    · rename_i i j h
      cases e
      cases ra
      cases rb
      rw [Bool.and_eq_true] at h
      exact ⟨i, j, rfl, rfl, h.1, h.2, q φ H _ (Ext.refl _ _ _) ok (.bl _)⟩
    · cases e
  · cases e
theorem ty_dT {pins : List (Addr × Obj)} {σ : L2.St} {H : Hp} {s : Shared} {a : Addr} {kvs : List (List L2.Key × V)} (I : Inv X pins σ H s) (h : H a = some (.dT kvs)) : s.TypeIs (Value.ref a) "dict" := by
  have o : L2.ObjOk X.prog X.w H s.heap a (.dT kvs) := I.hok a _ h
  rw [L2.ObjOk.eq_def] at o
  dsimp only at o
  obtain ⟨_, _, xs, _, o, es, ep, h1, h2, _⟩ := o
  exact ⟨o, h1, h2.1⟩
/-- type(x) -/
theorem call_ty : CallR X (.type "type") (fun xs H Q => ∃ x T, xs = [x] ∧ (TyB X.K H x T ∨ (T = "dict" ∧ ∃ a kvs, x = V.ref a ∧ H a = some (.dT kvs))) ∧ Q (V.ty T) H) := by
  intro pins s σ H xs us Q I r h
  obtain ⟨x, T, rfl, t, q⟩ := h
  obtain ⟨u, rfl, rx⟩ := vals1 r
  rcases t with t | ⟨rfl, a, kvs, rfl, t⟩
  · exact call_type_of (TyB.is I rx t) (TyB.nb t) ⟨V.ty T, H, I, rfl, q⟩
  · cases (show u = Value.ref a from rx)
    exact call_type_of (ty_dT I t) (by decide) ⟨V.ty "dict", H, I, rfl, q⟩
def gType : GN := fun as S => match as with
  | [a] => (tyD S a).map fun n => (.ty n, S)
  | _ => none
theorem tyb_rel {φ : Nat → Addr} {S : Sto} {H : Hp} {v : V} {d : D} {n : String} (ok : Ok X.K φ S H) (r : Rel X.K φ S.length H v d) (h : tyD S d = some n) : TyB X.K H v n ∨ (n = "dict" ∧ ∃ a kvs, v = V.ref a ∧ H a = some (.dT kvs)) := by
  cases r with
  | non => cases h; exact .inl .non
  | bl b => cases h; exact .inl (.bl b)
  | int b => cases h; exact .inl (.int b)
  | str b => cases h; exact .inl (.str b)
  | ty b => cases h
  | tup h1 r1 => cases h; exact .inl (.tup h1)
  | fro h1 r1 => cases h; exact .inl (.lst h1.sq)
  | @ref i hi =>
    unfold tyD at h
    dsimp only at h
    obtain ⟨ho, e, ro⟩ := ok.obj i _ (List.getElem?_eq_getElem hi)
    rw [List.getElem?_eq_getElem hi] at h
    generalize S[i] = o at h ro
    cases ro with
    | lst _ => cases h; exact .inl (.lst (SqL.of e))
    | dct _ _ => cases h; exact .inr ⟨rfl, _, _, rfl, e⟩
theorem callS_type : CallS X (.type "type") gType := ⟨_, call_ty, fun φ S H xs as c S' ok ra e Q q => by
  unfold gType at e
  split at e
  · rename_i a
    cases h1 : tyD S a with
    | none => rw [h1] at e; cases e
    | some n =>
      rw [h1] at e
      cases e
      cases ra with
      | cons r t =>
        cases t
        exact ⟨_, n, rfl, tyb_rel ok r h1, q φ H _ (Ext.refl _ _ _) ok (.ty n)⟩
  · cases e⟩
/-! ### slices of lists, empty dicts -/
def cutD (xs : List D) (lo hi : Option Int) : List D := List.take (HT.sIx xs.length xs.length hi - HT.sIx xs.length 0 lo) (List.drop (HT.sIx xs.length 0 lo) xs)
def lstOf (S : Sto) : D → Option (List D)
  | .fro xs => some xs
  | .ref i => match S[i]? with
    | some (.lst xs) => some xs
    | _ => none
  | _ => none
theorem lst_rel {φ : Nat → Addr} {S : Sto} {H : Hp} {v : V} {d : D} {ds : List D} (ok : Ok X.K φ S H) (r : Rel X.K φ S.length H v d) (h : lstOf S d = some ds) : ∃ p xs, v = .ref p ∧ SqL X.K H p xs ∧ Rels X.K φ S.length H xs ds := by
  cases r with
  | fro h1 r1 => cases h; exact ⟨_, _, rfl, h1.sq, r1⟩
  | @ref i hi =>
    unfold lstOf at h
    dsimp only at h
    obtain ⟨ho, e, ro⟩ := ok.obj i _ (List.getElem?_eq_getElem hi)
    rw [List.getElem?_eq_getElem hi] at h
    generalize S[i] = o at h ro
    cases ro with
    | lst r1 => cases h; exact ⟨_, _, rfl, SqL.of e, r1⟩
    | dct _ _ => cases h
  | _ => cases h
def mSl (m ml mh : M D) : M D := mB m fun a => mB ml fun l => match l with
  | .int i => mB mh fun h _ S => match h with
    | .int j => match lstOf S a with
      | some xs => some (.val (.ref S.length) (S ++ [.lst (cutD xs (some i) (some j))]))
      | none => none
    | _ => none
  | _ => fun _ _ => none
theorem x_sl {e lo hi : PySem.Expr} {m ml mh : M D} {pos p2 : Pos} (he : XE X ec W e m) (hl : XE X ec W lo ml) (hh : XE X ec W hi mh) : XE X ec W (.Subscript e (.Slice (some lo) (some hi) none p2) pos) (mSl m ml mh) := imE (pe_slice sl_list he (po_some hl) (po_some hh)) fun σ H Q h => by
  obtain ⟨φ, S, ρ, c⟩ := Cf.start h
  refine rd_imp (c.bind (rel1 := Rel X.K) monoC_true) fun x H1 ⟨φ1, S1, a, ra, c1⟩ => ?_
  refine rd_imp ((c1.carry ra).bind (rel1 := Rel X.K) monoC_rel) fun y H2 ⟨φ2, S2, b, rb, c2⟩ => ?_
  cases rb with
  | int i =>
    refine ⟨i, rfl, ?_⟩
    refine rd_imp (c2.bind (rel1 := Rel X.K) monoC_rel) fun z H3 ⟨φ3, S3, b3, rb3, c3⟩ => ?_
    obtain ⟨r', e, q⟩ := c3.run
    cases rb3 with
    | int j =>
      refine ⟨j, rfl, ?_⟩
      dsimp only at e
      split at e
      · rename_i ds hds
        cases e
        obtain ⟨p, xs, rfl, h5, r5⟩ := lst_rel c3.ok c3.car hds
        refine ⟨p, xs, rfl, h5, fun l hl => q _ _ _ (ext_new' hl) (c3.ok.new hl (.lst ?_)) rel_new⟩
        unfold cutV cutD
        rw [r5.len]
        exact (r5.drop _).take _
      · cases e
    | _ => cases e
  | _ =>
    obtain ⟨r', e, q⟩ := c2.run
    cases e
def mDct0 : M D := fun _ S => some (.val (.ref S.length) (S ++ [.dct []]))
theorem x_dct0 {pos : Pos} : XE X ec W (.Dict [] [] pos) mDct0 := imE pe_dnewT fun σ H Q h => by
  obtain ⟨φ, S, ρ, ok, env, r, e, q⟩ := h
  cases e
  exact fun p hp => q _ _ _ (ext_new' hp) (ok.new hp (.dct rfl .nil)) rel_new
/-- a call without arguments, of a def that raises nothing -/
def mCall0 (F : List D → Sto → Option (R D)) : M D := fun _ S => match F [] S with
  | some (.val d S') => some (.val d S')
  | _ => none
theorem never_passes {E : XK} (h : ∀ c d H, ¬ E c d H) : Passes (L2.CX X.prog X.w) X E := fun pins σ H s e s' I c => by
  obtain ⟨_, _, _, _, _, _, _, _, _, _, _, _, z⟩ := c
  exact absurd z (h _ _ _)
theorem x_call0 {x : Str} {p pos : Pos} {k : Nat} {f : Addr} {fd : FuncData} {F : List D → Sto → Option (R D)}
    (G : FnOk X.prog X.w X.K X.mg X.base (L2.CX X.prog X.w) k f fd [] (spF X.K ec 0 F)) (hr : Room k X.A) (hm : X.mg x = some (.ref f)) (hk : PySem.W.keepIn X.K (.ref f) = true) (hb : Binds X.K fd [] [])
    (hg : Gl X x := by rfl) (hdb : (x == ("__debug__" : Str)) = false := by decide) : XE X ec W (.Call (.Name x p) [] [] pos) (mCall0 F) := by
  refine imE (pe_call0 (E := fun _ _ _ => False) (dvs := []) G hr hg hm hk hb .nil (never_passes fun _ _ _ h => h) hdb) fun σ H Q h => ?_
  obtain ⟨φ, S, ρ, ok, env, r, e, q⟩ := h
  unfold mCall0 at e
  split at e
  · rename_i d S' e1
    cases e
    exact ⟨φ, S, [], ok, .nil, rfl, .val d S', e1, q⟩
  · cases e
end
end Rf
namespace Rf
open PySem PySem.Spec PyProof.Rows L2
/-! ### == of tuples and lists, by what is in them -/
def pdMap (f : D → Option PyData) : List D → Option (List PyData)
  | [] => some []
  | x :: xs => (f x).bind fun p => (pdMap f xs).map fun ps => p :: ps
def pdOf (S : Sto) : Nat → D → Option PyData
  | 0, _ => none
  | _ + 1, .non => some .none
  | _ + 1, .bl b => some (.bool b)
  | _ + 1, .int i => some (.int i)
  | _ + 1, .str x => some (.str x)
  | k + 1, .tup xs => (pdMap (pdOf S k) xs).map .tuple
  | k + 1, .fro xs => (pdMap (pdOf S k) xs).map .list
  | k + 1, .ref i => match S[i]? with
    | some (.lst xs) => (pdMap (pdOf S k) xs).map .list
    | _ => none
  | _ + 1, .ty _ => none
section
variable {X : Cx}
theorem pdMap_rel {φ : Nat → Addr} {S : Sto} {H : Hp} {f : D → Option PyData} (h : ∀ d p v, f d = some p → Rel X.K φ S.length H v d → Dp X.K H v p) : ∀ (ds : List D) (ps : List PyData) (vs : List V), pdMap f ds = some ps → Rels X.K φ S.length H vs ds → DpAll X.K H vs ps
  | [], ps, vs, e, r => by
    cases e
    cases r
    exact .nil
  | d :: ds, ps, vs, e, r => by
    cases r with
    | cons r1 r2 =>
      unfold pdMap at e
      cases h1 : f d with
      | none => rw [h1] at e; cases e
      | some p =>
        rw [h1, Option.bind_some] at e
        cases h2 : pdMap f ds with
        | none => rw [h2] at e; cases e
        | some qs =>
          rw [h2] at e
          cases e
          exact .cons (h d p _ h1 r1) (pdMap_rel h ds qs _ h2 r2)
theorem pd_rel {φ : Nat → Addr} {S : Sto} {H : Hp} (ok : Ok X.K φ S H) : ∀ (k : Nat) (d : D) (p : PyData) (v : V), pdOf S k d = some p → Rel X.K φ S.length H v d → Dp X.K H v p
  | 0, d, p, v, e, r => by unfold pdOf at e; cases e
  | k + 1, d, p, v, e, r => by
    cases r with
    | non => cases e; exact .non
    | bl b => cases e; exact .bl b
    | int i => cases e; exact .int i
    | str x => cases e; exact .str x
    | ty x => cases e
    | @tup a xs ds h1 r1 =>
      unfold pdOf at e
      cases h2 : pdMap (pdOf S k) ds with
      | none => rw [h2] at e; cases e
      | some qs => rw [h2] at e; cases e; exact .tup h1 (pdMap_rel (pd_rel ok k) _ _ _ h2 r1)
    | @fro a xs ds h1 r1 =>
      unfold pdOf at e
      cases h2 : pdMap (pdOf S k) ds with
      | none => rw [h2] at e; cases e
      | some qs => rw [h2] at e; cases e; exact .lst h1.sq (pdMap_rel (pd_rel ok k) _ _ _ h2 r1)
    | @ref i hi =>
      unfold pdOf at e
      obtain ⟨ho, eo, ro⟩ := ok.obj i _ (List.getElem?_eq_getElem hi)
      rw [List.getElem?_eq_getElem hi] at e
      generalize S[i] = o at e ro
      cases ro with
      | @lst xs ds r1 =>
        dsimp only at e
        cases h2 : pdMap (pdOf S k) ds with
        | none => rw [h2] at e; cases e
        | some qs => rw [h2] at e; cases e; exact .lst (SqL.of eo) (pdMap_rel (pd_rel ok k) _ _ _ h2 r1)
      | dct _ _ => cases e
def gEqD (neg : Bool) : G2 := fun a b S => match pdOf S 60 a, pdOf S 60 b with
  | some p, some q => if SeqAt.shaped p && SeqAt.shaped q then some (.bl (if neg then !PyData.eqv p q else PyData.eqv p q), S) else none
  | _, _ => none
theorem opS_eqD (hu : X.A.units + 64 < cLine) : OpS X (compareOp .Eq) (gEqD false) := by
  refine ⟨_, op_eqD hu, fun φ S H x y a b d S' ok ra rb e Q q => ?_⟩
  unfold gEqD at e
  split at e
  · rename_i p r h1 h2
    split at e
    · rename_i h
      cases e
      rw [Bool.and_eq_true] at h
      exact ⟨p, r, pd_rel ok _ _ _ _ h1 ra, pd_rel ok _ _ _ _ h2 rb, h.1, h.2, q φ H _ (Ext.refl _ _ _) ok (.bl _)⟩
    · cases e
  · cases e
theorem opS_neD (hu : X.A.units + 64 < cLine) : OpS X (compareOp .NotEq) (gEqD true) := by
  refine ⟨_, op_neD hu, fun φ S H x y a b d S' ok ra rb e Q q => ?_⟩
  unfold gEqD at e
  split at e
  · rename_i p r h1 h2
    split at e
    · rename_i h
      cases e
      rw [Bool.and_eq_true] at h
      exact ⟨p, r, pd_rel ok _ _ _ _ h1 ra, pd_rel ok _ _ _ _ h2 rb, h.1, h.2, q φ H _ (Ext.refl _ _ _) ok (.bl _)⟩
    · cases e
  · cases e
end
end Rf
namespace Rf
open PySem PySem.Spec PyProof.Rows L2
/-! ### a dict == a tuple -/
theorem isInst {M : Model} {A : Around} {E : Value → Shared → Prop} {s : Shared} {b : Addr} {ob : Obj} {T : String} {k : Bool} {Q : Bool → Shared → Prop} (hb : s.heap.get? b = some ob) (f1 : isSubtype ob.cls (Value.type T) = pure k) (hq : Q k s) : wpAny M A (isInstance (Value.ref b) (Value.type T)) Q E s := by
  unfold isInstance
  refine wpAny_bind ?_
  exact id (wpAny_bind (wpAny_loadPart' hb (wpAny_pure (wpAny_of_eq f1 hq))))
theorem tuple_eq_dict {prog : Program} {w : World} {A : Around} {E : Value → Shared → Prop} {s : Shared} {l b : Addr} {ob : Obj} {Q : PySem.Fin → Shared → Prop} (hb : s.heap.get? b = some ob) (hc : ob.cls = Value.type "dict") (hq : Q (PySem.Fin.done (Flow.ret Value.notImplemented)) s) :
    wpAny (model prog w) A (Builtin.«tuple.__eq__» { pos := [Value.ref l, Value.ref b] }) Q E s := by
  have f1 : isSubtype ob.cls (Value.type "tuple") = pure false := by rw [hc]; exact F.sub_dict_tuple
  refine wpAny_bind ?_
  unfold slotArgs
  refine wpAny_ite_false rfl (wpAny_ite_false rfl (wpAny_pure ?_))
  dsimp only
  refine wpAny_bind (isInst hb f1 ?_)
  exact wpAny_ite_true rfl (wpAny_pure hq)
theorem dict_eq_tuple {prog : Program} {w : World} {A : Around} {E : Value → Shared → Prop} {s : Shared} {l b : Addr} {ol ob : Obj} {Q : PySem.Fin → Shared → Prop} (hl : s.heap.get? l = some ol) (hlc : ol.cls = Value.type "dict") (hb : s.heap.get? b = some ob) (hc : ob.cls = Value.type "tuple") (hq : Q (PySem.Fin.done (Flow.ret Value.notImplemented)) s) :
    wpAny (model prog w) A (Builtin.«dict.__eq__» { pos := [Value.ref l, Value.ref b] }) Q E s := by
  have f1 : isSubtype ob.cls (Value.type "dict") = pure false := by rw [hc]; exact F.sub_tuple_dict
  refine wpAny_bind ?_
  unfold Builtin.Dict.dictSlotArgs
  refine wpAny_bind ?_
  unfold Builtin.Dict.notOrdered
  refine wpAny_ite_false (by decide) (wpAny_pure ?_)
  refine wpAny_bind ?_
  unfold slotArgs
  refine wpAny_ite_false rfl (wpAny_ite_false rfl (wpAny_pure ?_))
  dsimp only
  refine wpAny_pure ?_
  dsimp only
  refine wpAny_bind (isInst hb f1 ?_)
  refine wpAny_ite_true rfl ?_
  exact wpAny_bind (wpAny_rule (wpAny_pure hq))
theorem isSame_dt {M : Model} {A : Around} {E : Value → Shared → Prop} {s : Shared} {a b : Addr} {oa ob : Obj} {Q : Bool → Shared → Prop} (ha : s.heap.get? a = some oa) (hac : oa.cls = Value.type "dict") (hb : s.heap.get? b = some ob) (hbc : ob.cls = Value.type "tuple") (hq : Q false s) : wpAny M A (isSame (Value.ref a) (Value.ref b)) Q E s := by
  have hne : (a == b) = false := by
    rw [Bool.eq_false_iff]
    intro e
    have e : a = b := by simpa using e
    subst e
    rw [ha] at hb
    cases hb
    rw [hac] at hbc
    exact absurd hbc (by decide)
  unfold isSame
  dsimp only
  refine wpAny_ite_false (by rw [hne]; rfl) ?_
  refine wpAny_bind (wpAny_loadPart' ha ?_)
  refine wpAny_bind (wpAny_loadPart' hb ?_)
  rw [hac, hbc]
  exact wpAny_pure hq
/-- a dict and a tuple are not the same -/
theorem eq_dict_tuple {prog : Program} {w : World} {A : Around} {E : Value → Shared → Prop} {s : Shared} {a b : Addr} {oa ob : Obj} {Q : Value → Shared → Prop} (hu : A.units < cLine) (ha : s.heap.get? a = some oa) (hac : oa.cls = Value.type "dict") (hb : s.heap.get? b = some ob) (hbc : ob.cls = Value.type "tuple") (hq : Q (Value.bool false) s) :
    wpAny (model prog w) A (compareOp CmpOp.Eq (Value.ref a) (Value.ref b)) Q E s := by
  have ta : s.TypeIs (Value.ref a) "dict" := ⟨oa, ha, hac⟩
  have tb : s.TypeIs (Value.ref b) "tuple" := ⟨ob, hb, hbc⟩
  show wpAny (model prog w) A (richCompare CmpOp.Eq (Value.ref a) (Value.ref b)) Q E s
  unfold richCompare
  refine wpAny_holding ?_
  refine wpAny_bind (wpAny_cRoomFor_or (Or.inr hu) ?_)
  rw [Shared.TypeIs.oneThing_none ta]
  dsimp only
  refine wpAny_bind (wpAny_typeOf ta ?_)
  refine wpAny_bind (wpAny_typeOf tb ?_)
  rw [if_pos (by decide)]
  refine wpAny_bind (wpAny_of_eq F.sub_tuple_dict ?_)
  rw [if_neg (by simp)]
  refine wpAny_bind (wpAny_tryCompare_declines ta F.slot_dict_eq ?_)
  refine wpAny_call (codeAny_call_builtin F.slot_dict_eq.plain F.entry_dict_eq (F.slot_dict_eq.check _ _ _ _ _ _ _ _ ta (F.args_dict_eq_2 _ _) (dict_eq_tuple ha hac hb hbc ?_)))
  refine ⟨rfl, ?_⟩
  rw [if_pos (by rfl : (!false) = true)]
  refine wpAny_bind (wpAny_tryCompare_declines tb F.slot_tuple_eq_refl ?_)
  refine wpAny_call (codeAny_call_builtin F.slot_tuple_eq_refl.plain F.entry_tuple_eq (F.slot_tuple_eq_refl.check _ _ _ _ _ _ _ _ tb (F.args_tuple_eq_2 _ _) (tuple_eq_dict ha hac ?_)))
  refine ⟨rfl, ?_⟩
  exact wpAny_bind (wpAny_rule (wpAny_bind (isSame_dt ha hac hb hbc (wpAny_pure hq))))
section
variable {X : Cx}
theorem op_eq_dt (hu : X.A.units < cLine) : OpR X (compareOp .Eq) (fun x y H Q => ∃ a kvs b, x = V.ref a ∧ y = V.ref b ∧ H a = some (.dT kvs) ∧ TyB X.K H (V.ref b) "tuple" ∧ Q (V.bl false) H) := by
  intro pins s σ H x y v u Q inv rx ry h
  obtain ⟨a, kvs, b, rfl, rfl, ha, tb, q⟩ := h
  have t2 := TyB.is inv ry tb
  cases (show v = Value.ref a from rx)
  cases (show u = Value.ref b from ry)
  obtain ⟨oa, h1, h2⟩ := ty_dT inv ha
  obtain ⟨ob, h3, h4⟩ := t2
  exact eq_dict_tuple hu h1 h2 h3 h4 ⟨V.bl false, H, inv, rfl, q⟩
def gEqDT : G2 := fun a b S => match a, b with
  | .ref i, .tup _ => match S[i]? with
    | some (.dct _) => some (.bl false, S)
    | _ => none
  | _, _ => none
theorem opS_eqDT (hu : X.A.units < cLine) : OpS X (compareOp .Eq) gEqDT := by
  refine ⟨_, op_eq_dt hu, fun φ S H x y a b d S' ok ra rb e Q q => ?_⟩
  unfold gEqDT at e
  split at e
  · rename_i i xs
    split at e
    · rename_i kvs h
      cases e
      cases ra with
      | ref hi =>
        obtain ⟨ho, eo, ro⟩ := ok.obj i _ h
        cases ro with
        | dct _ _ =>
          cases rb with
          | tup h1 r1 => exact ⟨_, _, _, rfl, rfl, eo, .tup h1, q φ H _ (Ext.refl _ _ _) ok (.bl _)⟩
    · cases e
  · cases e
def gEqX : G2 := orG (gEqD false) gEqDT
theorem opS_eqX {k : Nat} (hr : Room k X.A) : OpS X (compareOp .Eq) gEqX := (opS_eqD hr.units).or (opS_eqDT hr.units0)
end
end Rf
namespace Rf
open PySem PySem.Spec PyProof.Rows L2
theorem var0 {d : D} {ρ : Env} {S : Sto} : mVar 0 (some d :: ρ) S = some (.val d S) := rfl
theorem varS {x : Option D} {i : Nat} {ρ : Env} {S : Sto} : mVar (i + 1) (x :: ρ) S = mVar i ρ S := by
  unfold mVar
  rw [List.getElem?_cons_succ]
theorem set0 {α : Type} {x y : α} {ρ : List α} : (x :: ρ).set 0 y = y :: ρ := rfl
theorem setS {α : Type} {x y : α} {i : Nat} {ρ : List α} : (x :: ρ).set (i + 1) y = x :: ρ.set i y := rfl
theorem ixT {k : Nat} {x : D} {xs : List D} {S : Sto} (h : xs[k]? = some x) : gIx (.tup xs) (.int (k : Int)) S = some (x, S) := by
  unfold gIx
  dsimp only
  show (itemsOf S (.tup xs)).bind _ = _
  show (some xs).bind _ = _
  rw [Option.bind_some, atI_nat h]
  rfl
theorem ix0 {x : D} {xs : List D} {S : Sto} : gIx (.tup (x :: xs)) (.int 0) S = some (x, S) := ixT (k := 0) rfl
theorem ix1 {x y : D} {xs : List D} {S : Sto} : gIx (.tup (x :: y :: xs)) (.int 1) S = some (y, S) := ixT (k := 1) rfl
theorem ix2 {x y z : D} {xs : List D} {S : Sto} : gIx (.tup (x :: y :: z :: xs)) (.int 2) S = some (z, S) := ixT (k := 2) rfl
/-- a list of the store -/
theorem ixR {i k : Nat} {x : D} {xs : List D} {S : Sto} (hs : S[i]? = some (.lst xs)) (h : xs[k]? = some x) : gIx (.ref i) (.int (k : Int)) S = some (x, S) := by
  unfold gIx
  dsimp only
  show (itemsOf S (.ref i)).bind _ = _
  have e : itemsOf S (.ref i) = some xs := by
    unfold itemsOf
    dsimp only
    rw [hs]
  rw [e, Option.bind_some, atI_nat h]
  rfl
theorem mul_ii {i j : Int} {S : Sto} (h : mulOk i j = true) : gMul (.int i) (.int j) S = some (.int (i * j), S) := by
  unfold gMul gI
  dsimp only
  rw [if_pos h]
theorem div_ii {i j : Int} {S : Sto} (h : divOk i j = true) : gDiv (.int i) (.int j) S = some (.int (i.fdiv j), S) := by
  unfold gDiv gI
  dsimp only
  rw [if_pos h]
theorem mod_ii {i j : Int} {S : Sto} (h : j ≠ 0) : gMod (.int i) (.int j) S = some (.int (i.fmod j), S) := by
  unfold gMod gI
  dsimp only
  rw [if_pos (decide_eq_true h)]
theorem add_ii {i j : Int} {S : Sto} : gAdd (.int i) (.int j) S = some (.int (i + j), S) := rfl
theorem sub_ii {i j : Int} {S : Sto} : gSub (.int i) (.int j) S = some (.int (i - j), S) := rfl
theorem lt_ii {i j : Int} {S : Sto} : gLt (.int i) (.int j) S = some (.bl (decide (i < j)), S) := rfl
theorem le_ii {i j : Int} {S : Sto} : gLe (.int i) (.int j) S = some (.bl (decide (i ≤ j)), S) := rfl
theorem gt_ii {i j : Int} {S : Sto} : gGt (.int i) (.int j) S = some (.bl (decide (j < i)), S) := rfl
theorem ge_ii {i j : Int} {S : Sto} : gGe (.int i) (.int j) S = some (.bl (decide (j ≤ i)), S) := rfl
theorem eq_ii {i j : Int} {S : Sto} : gEq (.int i) (.int j) S = some (.bl (decide (i = j)), S) := rfl
theorem ne_ii {i j : Int} {S : Sto} : gNe (.int i) (.int j) S = some (.bl (!decide (i = j)), S) := rfl
theorem neg_i {i : Int} {S : Sto} : gNeg (.int i) S = some (.int (-i), S) := rfl
theorem gcd_ii {i j : Int} {S : Sto} : gGcd [.int i, .int j] S = some (.int ((Nat.gcd i.natAbs j.natAbs : Nat) : Int), S) := rfl
theorem abs_i {i : Int} {S : Sto} : gAbs [.int i] S = some (.int (if i < 0 then -i else i), S) := rfl
theorem int_i {i : Int} {S : Sto} : gInt [.int i] S = some (.int i, S) := rfl
theorem int_b {k : Bool} {S : Sto} : gInt [.bl k] S = some (.int (if k then 1 else 0), S) := rfl
theorem tru_b {k : Bool} {S : Sto} : truD (.bl k) S = some k := rfl
/-- a choice by a test -/
theorem sIf_tt {c : M Bool} {a b : MS} {ρ : Env} {S S1 : Sto} (h : c ρ S = some (.val true S1)) : sIf c a b ρ S = a ρ S1 := by unfold sIf sB; rw [h]
end Rf
namespace Rf
open PySem PySem.Spec PyProof.Rows L2
theorem loopW_true {c : M Bool} {b : MS} {n : Nat} {ρ ρ' : Env} {S S1 S' : Sto} (hc : c ρ S = some (.val true S1)) (hb : b ρ S1 = some (.nx ρ' S')) : loopW c b (n + 1) ρ S = loopW c b n ρ' S' := by
  rw [loopW]
  simp only [hc, hb]
theorem loopW_false {c : M Bool} {b : MS} {n : Nat} {ρ : Env} {S S1 : Sto} (hc : c ρ S = some (.val false S1)) : loopW c b (n + 1) ρ S = some (.nx ρ S1) := by
  rw [loopW]
  simp only [hc]
/-- a for over items that stand -/
def forI (t : Tgt) (b : MS) : List D → MS
  | [] => fun ρ S => some (.nx ρ S)
  | x :: xs => fun ρ S => match t x ρ S with
    | none => none
    | some ρ1 => match b ρ1 S with
      | some (.nx ρ' S') => forI t b xs ρ' S'
      | some (.cnt ρ' S') => forI t b xs ρ' S'
      | some (.brk ρ' S') => some (.nx ρ' S')
      | r => r
theorem loopQ_items {t : Tgt} {b : MS} {xs : List D} : ∀ (n i : Nat) (ρ : Env) (S : Sto), xs.length - i < n → loopQ t b (sqIt xs) n i ρ S = forI t b (xs.drop i) ρ S
  | 0, i, ρ, S, h => absurd h (by omega)
  | n + 1, i, ρ, S, h => by
    rw [loopQ]
    by_cases c : i < xs.length
    · have ih := fun ρ S => loopQ_items (t := t) (b := b) (xs := xs) n (i + 1) ρ S (by omega)
      rw [List.drop_eq_getElem_cons c]
      have e1 : sqIt xs i S = some (some xs[i]) := by
        unfold sqIt
        rw [List.getElem?_eq_getElem c]
      simp only [e1, forI]
      cases h1 : t xs[i] ρ S with
      | none => rfl
      | some ρ1 =>
        dsimp only
        cases h2 : b ρ1 S with
        | none => rfl
        | some r =>
          cases r with
          | nx ρ' S' => exact ih ρ' S'
          | cnt ρ' S' => exact ih ρ' S'
          | brk ρ' S' => rfl
          | ret d S' => rfl
          | exc c ρ' S' => rfl
    · have e1 : sqIt xs i S = some none := by
        unfold sqIt
        rw [List.getElem?_eq_none (by omega)]
      rw [List.drop_eq_nil_of_le (by omega)]
      simp only [e1]
      rfl
theorem for_items {t : Tgt} {it : M Sq} {b : MS} {ρ : Env} {S S1 : Sto} {xs : List D} (h : it ρ S = some (.val (sqIt xs) S1)) (hl : xs.length < fuel) : sFor t it b ρ S = forI t b xs ρ S1 := by
  unfold sFor sB
  rw [h]
  exact loopQ_items fuel 0 ρ S1 (by omega)
theorem forI_nil {t : Tgt} {b : MS} {ρ : Env} {S : Sto} : forI t b [] ρ S = some (.nx ρ S) := rfl
theorem forI_nx {t : Tgt} {b : MS} {x : D} {xs : List D} {ρ ρ1 ρ' : Env} {S S' : Sto} (ht : t x ρ S = some ρ1) (hb : b ρ1 S = some (.nx ρ' S')) : forI t b (x :: xs) ρ S = forI t b xs ρ' S' := by
  rw [forI]
  simp only [ht, hb]
theorem mRng1_eq {ms : M (List D)} {ρ : Env} {S S1 : Sto} {n : Int} (h : ms ρ S = some (.val [.int n] S1)) (hn : rngOk n = true) : mRng1 ms ρ S = some (.val (sqIt (rngD 0 n.toNat)) S1) := by
  unfold mRng1 mB
  rw [h]
  dsimp only
  rw [if_pos hn]
theorem rngD_succ {lo : Int} {n : Nat} : rngD lo (n + 1) = .int lo :: rngD (lo + 1) n := by
  unfold rngD
  rw [List.range_succ_eq_map, List.map_cons, List.map_map]
  congr 1
  · simp
  · apply List.map_congr_left
    intro a _
    show D.int (lo + ((a + 1 : Nat) : Int)) = D.int (lo + 1 + (a : Int))
    congr 1
    omega
theorem get_last {S : Sto} {o : O} {k : Nat} (h : k = S.length) : (S ++ [o])[k]? = some o := by
  subst h
  rw [List.getElem?_append_right (Nat.le_refl _), Nat.sub_self]
  rfl
theorem set_last {S : Sto} {o o' : O} {k : Nat} (h : k = S.length) : (S ++ [o]).set k o' = S ++ [o'] := by
  subst h
  rw [List.set_append_right _ _ (Nat.le_refl _), Nat.sub_self]
  rfl
/-- append to the newest list -/
theorem app_last {mo me : M D} {ρ : Env} {S : Sto} {k : Nat} {xs : List D} {d : D} (hk : k = S.length) (ho : mo ρ (S ++ [.lst xs]) = some (.val (.ref k) (S ++ [.lst xs]))) (he : me ρ (S ++ [.lst xs]) = some (.val d (S ++ [.lst xs]))) (hl : xs.length < 1000000) :
    mApp mo me ρ (S ++ [.lst xs]) = some (.val .non (S ++ [.lst (xs ++ [d])])) := by
  unfold mApp mB
  rw [ho]
  dsimp only
  rw [get_last hk]
  dsimp only
  rw [he]
  dsimp only
  rw [get_last hk]
  dsimp only
  rw [if_pos hl, set_last hk]
theorem pow_1018 {S : Sto} : gPow (.int 10) (.int 18) S = some (.int 1000000000000000000, S) := by
  unfold gPow gI
  simp
end Rf
namespace Rf
open PySem PySem.Spec PyProof.Rows L2
theorem seq_nx {a b : MS} {ρ ρ' : Env} {S S' : Sto} {r : Option RS} (h : a ρ S = some (.nx ρ' S')) (k : b ρ' S' = r) : sSeq a b ρ S = r := by
  unfold sSeq
  rw [h]
  exact k
theorem seq_ret {a b : MS} {ρ : Env} {S S' : Sto} {d : D} (h : a ρ S = some (.ret d S')) : sSeq a b ρ S = some (.ret d S') := by
  unfold sSeq
  rw [h]
theorem fn_ret {n : Nat} {m : MS} {ds : List D} {S S' : Sto} {d : D} (h : m (ds.map some ++ List.replicate (n - ds.length) none) S = some (.ret d S')) : fnOf n m ds S = some (.val d S') := by
  unfold fnOf
  rw [h]
theorem set_eq {i : Nat} {m : M D} {ρ : Env} {S S1 : Sto} {d : D} (h : m ρ S = some (.val d S1)) : sSet i m ρ S = some (.nx (ρ.set i (some d)) S1) := by
  unfold sSet sB
  rw [h]
theorem ret_eq {m : M D} {ρ : Env} {S S1 : Sto} {d : D} (h : m ρ S = some (.val d S1)) : sRet m ρ S = some (.ret d S1) := by
  unfold sRet sB
  rw [h]
theorem if_t {c : M Bool} {a b : MS} {ρ : Env} {S S1 : Sto} {r : Option RS} (h : c ρ S = some (.val true S1)) (k : a ρ S1 = r) : sIf c a b ρ S = r := by
  unfold sIf sB
  rw [h]
  exact k
theorem if_f {c : M Bool} {a b : MS} {ρ : Env} {S S1 : Sto} {r : Option RS} (h : c ρ S = some (.val false S1)) (k : b ρ S1 = r) : sIf c a b ρ S = r := by
  unfold sIf sB
  rw [h]
  exact k
end Rf
namespace Rf
open PySem PySem.Spec PyProof.Rows L2
/-- a comprehension none of whose items is taken -/
theorem loopC_none {t : Tgt} {c : M Bool} {el : M D} {ρ0 : Env} {n0 : Nat} {xs : List D} (h : ∀ x ∈ xs, ∀ S, ∃ ρ1 G, t x ρ0 S = some ρ1 ∧ c ρ1 S = some (.val false (S ++ G))) : ∀ (n i : Nat) (S : Sto), xs.length - i < n → ∃ G, loopC t c el (sqIt xs) ρ0 n0 n i S = some (S ++ G)
  | 0, i, S, hn => absurd hn (by omega)
  | n + 1, i, S, hn => by
    rw [loopC]
    by_cases k : i < xs.length
    · have e1 : sqIt xs i S = some (some xs[i]) := by
        unfold sqIt
        rw [List.getElem?_eq_getElem k]
      obtain ⟨ρ1, G, h1, h2⟩ := h xs[i] (List.getElem_mem k) S
      obtain ⟨G', ih⟩ := loopC_none (el := el) (n0 := n0) h n (i + 1) (S ++ G) (by omega)
      exact ⟨G ++ G', by simp only [e1, h1, h2, ih, List.append_assoc]⟩
    · have e1 : sqIt xs i S = some none := by
        unfold sqIt
        rw [List.getElem?_eq_none (by omega)]
      exact ⟨[], by simp only [e1, List.append_nil]⟩
theorem lc_none {vs : List Nat} {t : Tgt} {it : M Sq} {c : M Bool} {el : M D} {ρ : Env} {S S1 : Sto} {xs : List D} (hi : it ρ S = some (.val (sqIt xs) S1)) (hl : xs.length < fuel) (h : ∀ x ∈ xs, ∀ S, ∃ ρ1 G, t x (wipeE ρ vs) S = some ρ1 ∧ c ρ1 S = some (.val false (S ++ G))) :
    ∃ G, mLc vs t it c el ρ S = some (.val (.ref S1.length) (S1 ++ (.lst [] :: G))) := by
  obtain ⟨G, e⟩ := loopC_none (el := el) (n0 := S1.length) h fuel 0 (S1 ++ [.lst []]) (by omega)
  refine ⟨G, ?_⟩
  unfold mLc mB
  rw [hi]
  dsimp only
  rw [e]
  dsimp only
  rw [List.append_assoc, List.singleton_append]
/-- a comprehension that takes all, each worked out to f of it -/
theorem loopC_all {t : Tgt} {el : M D} {ρ0 : Env} {S0 : Sto} {xs : List D} {f : D → D} (h : ∀ x ∈ xs, ∀ S, ∃ ρ1 G, t x ρ0 S = some ρ1 ∧ el ρ1 S = some (.val (f x) (S ++ G))) (hs : xs.length < 1000) : ∀ (n i : Nat) (acc : List D) (G0 : Sto), xs.length - i < n → acc.length + (xs.length - i) < 1000 → ∃ G, loopC t mYes el (sqIt xs) ρ0 S0.length n i (S0 ++ (.lst acc :: G0)) = some (S0 ++ (.lst (acc ++ (xs.drop i).map f) :: G))
  | 0, i, acc, G0, hn, _ => absurd hn (by omega)
  | n + 1, i, acc, G0, hn, ha => by
    rw [loopC]
    by_cases k : i < xs.length
    · have e1 : sqIt xs i (S0 ++ (.lst acc :: G0)) = some (some xs[i]) := by
        unfold sqIt
        rw [List.getElem?_eq_getElem k]
      obtain ⟨ρ1, G, h1, h2⟩ := h xs[i] (List.getElem_mem k) (S0 ++ (.lst acc :: G0))
      have e3 : (S0 ++ (O.lst acc :: G0) ++ G)[S0.length]? = some (.lst acc) := by
        rw [List.append_assoc, List.getElem?_append_right (Nat.le_refl _), Nat.sub_self]
        rfl
      have e4 : (S0 ++ (O.lst acc :: G0) ++ G).set S0.length (.lst (acc ++ [f xs[i]])) = S0 ++ (.lst (acc ++ [f xs[i]]) :: (G0 ++ G)) := by
        rw [List.append_assoc, List.set_append_right _ _ (Nat.le_refl _), Nat.sub_self]
        rfl
      obtain ⟨G', ih⟩ := loopC_all (S0 := S0) h hs n (i + 1) (acc ++ [f xs[i]]) (G0 ++ G) (by omega) (by rw [List.length_append, List.length_singleton]; omega)
      refine ⟨G', ?_⟩
      have ey : mYes ρ1 (S0 ++ (.lst acc :: G0)) = some (.val true (S0 ++ (.lst acc :: G0))) := rfl
      simp only [e1, h1, ey, h2, e3, if_pos (show acc.length < 1000000 by omega), e4]
      rw [ih, List.append_assoc, List.singleton_append, List.drop_eq_getElem_cons k, List.map_cons]
    · have e1 : sqIt xs i (S0 ++ (.lst acc :: G0)) = some none := by
        unfold sqIt
        rw [List.getElem?_eq_none (by omega)]
      refine ⟨G0, ?_⟩
      rw [List.drop_eq_nil_of_le (by omega), List.map_nil, List.append_nil]
      simp only [e1]
theorem lc_all {vs : List Nat} {t : Tgt} {it : M Sq} {el : M D} {ρ : Env} {S S1 : Sto} {xs : List D} {f : D → D} (hi : it ρ S = some (.val (sqIt xs) S1)) (hl : xs.length < 1000) (h : ∀ x ∈ xs, ∀ S, ∃ ρ1 G, t x (wipeE ρ vs) S = some ρ1 ∧ el ρ1 S = some (.val (f x) (S ++ G))) :
    ∃ G, mLc vs t it mYes el ρ S = some (.val (.ref S1.length) (S1 ++ (.lst (xs.map f) :: G))) := by
  obtain ⟨G, e⟩ := loopC_all (S0 := S1) h hl fuel 0 [] [] (lt_fuel (k := 10) (by omega) (by omega)) (by rw [List.length_nil]; omega)
  refine ⟨G, ?_⟩
  unfold mLc mB
  rw [hi]
  dsimp only
  rw [show S1 ++ [O.lst []] = S1 ++ (O.lst [] :: []) from rfl, e]
  dsimp only
  rw [List.drop_zero, List.nil_append]
theorem isi {a : D} {T n : String} {b : Bool} {S : Sto} (h : tyD S a = some n) (k : kitB n T = some b) : gIsi [a, .ty T] S = some (.bl b, S) := by
  unfold gIsi
  dsimp only
  rw [h, Option.bind_some, k]
  rfl
theorem kit1 : kitB "int" "tuple" = some false := by decide +kernel
theorem kit2 : kitB "int" "list" = some false := by decide +kernel
theorem kit3 : kitB "int" "int" = some true := by decide +kernel
theorem kit4 : kitB "int" "bool" = some false := by decide +kernel
theorem kit5 : kitB "tuple" "tuple" = some true := by decide +kernel
theorem kit6 : kitB "tuple" "list" = some false := by decide +kernel
theorem kit7 : kitB "list" "tuple" = some false := by decide +kernel
theorem kit8 : kitB "list" "list" = some true := by decide +kernel
theorem is_int {i : Int} {S : Sto} {d : D} (h : d = .non ∨ d = .bl true ∨ d = .bl false) : gIs (.int i) d S = some (.bl false, S) := by
  rcases h with rfl | rfl | rfl <;> rfl
end Rf
namespace Rf
open PySem PySem.Spec PyProof.Rows L2
section
variable {ρ : Env} {S S1 S2 S3 : Sto} {a b c d : D} {as : List D} {ma mb m : M D} {ms : M (List D)} {g : G2}
theorem v_var {i : Nat} (h : ρ[i]? = some (some d)) : mVar i ρ S = some (.val d S) := by
  unfold mVar
  rw [h]
theorem v_ret {α : Type} {a : α} : mRet a ρ S = some (.val a S) := rfl
theorem v_op (ha : ma ρ S = some (.val a S1)) (hb : mb ρ S1 = some (.val b S2)) (hg : g a b S2 = some (c, S3)) : mOp g ma mb ρ S = some (.val c S3) := by
  unfold mOp mB
  simp only [ha, hb, hg]
theorem v_un {g : G1} (ha : ma ρ S = some (.val a S1)) (hg : g a S1 = some (c, S2)) : mUn g ma ρ S = some (.val c S2) := by
  unfold mUn mB
  simp only [ha, hg]
theorem v_bi {g : GN} (ha : ms ρ S = some (.val as S1)) (hg : g as S1 = some (c, S2)) : mBi g ms ρ S = some (.val c S2) := by
  unfold mBi mB
  simp only [ha, hg]
theorem v_nil : mNil ρ S = some (.val [] S) := rfl
theorem v_cons (ha : ma ρ S = some (.val a S1)) (hs : ms ρ S1 = some (.val as S2)) : mCons ma ms ρ S = some (.val (a :: as) S2) := by
  unfold mCons mB
  simp only [ha, hs]
  rfl
theorem v_call {F : List D → Sto → Option (R D)} {r : Option (R D)} (ha : ms ρ S = some (.val as S1)) (hF : F as S1 = r) : mCall F ms ρ S = r := by
  unfold mCall mB
  simp only [ha, hF]
theorem v_tup (ha : ms ρ S = some (.val as S1)) (hl : as.length ≤ 1000) : mTup ms ρ S = some (.val (.tup as) S1) := by
  unfold mTup mB
  simp only [ha, if_pos hl]
  rfl
theorem v_lst (ha : ms ρ S = some (.val as S1)) (hl : as.length ≤ 1000) : mLst ms ρ S = some (.val (.ref S1.length) (S1 ++ [.lst as])) := by
  unfold mLst mB
  simp only [ha, if_pos hl]
  rfl
theorem v_T {k : Bool} (ha : ma ρ S = some (.val (.bl k) S1)) : mT ma ρ S = some (.val k S1) := by
  unfold mT mB
  simp only [ha]
  rfl
theorem v_tru {k : Bool} (ha : ma ρ S = some (.val a S1)) (h : truD a S1 = some k) : mTru ma ρ S = some (.val k S1) := by
  unfold mTru mB
  simp only [ha, h]
theorem v_not {m : M Bool} {k : Bool} (h : m ρ S = some (.val k S1)) : mNotB m ρ S = some (.val (!k) S1) := by
  unfold mNotB mB
  simp only [h]
  rfl
theorem v_or_f {m m' : M Bool} {r : Option (R Bool)} (h : m ρ S = some (.val false S1)) (h' : m' ρ S1 = r) : mOr m m' ρ S = r := by
  unfold mOr mB
  simp only [h, h']
theorem v_or_t {m m' : M Bool} (h : m ρ S = some (.val true S1)) : mOr m m' ρ S = some (.val true S1) := by
  unfold mOr mB
  simp only [h]
  rfl
theorem v_and_t {m m' : M Bool} {r : Option (R Bool)} (h : m ρ S = some (.val true S1)) (h' : m' ρ S1 = r) : mAnd m m' ρ S = r := by
  unfold mAnd mB
  simp only [h, h']
theorem v_and_f {m m' : M Bool} (h : m ρ S = some (.val false S1)) : mAnd m m' ρ S = some (.val false S1) := by
  unfold mAnd mB
  simp only [h]
  rfl
theorem v_seq {q : Sq} (ha : ma ρ S = some (.val a S1)) (h : sqOf S1 a = some q) : mSeq ma ρ S = some (.val q S1) := by
  unfold mSeq mB
  simp only [ha, h]
theorem nil_eq : sNil ρ S = some (.nx ρ S) := rfl
theorem ex_eq (ha : ma ρ S = some (.val a S1)) : sEx ma ρ S = some (.nx ρ S1) := by
  unfold sEx sB
  simp only [ha]
/-- if c: .. (not taken, nothing else) -/
theorem skip {mc : M Bool} {x : MS} (h : mc ρ S = some (.val false S1)) : sIf mc x sNil ρ S = some (.nx ρ S1) := if_f h rfl
end
theorem len_tup {xs : List D} {S : Sto} : gLen [.tup xs] S = some (.int xs.length, S) := rfl
theorem len_ref {i : Nat} {xs : List D} {S : Sto} (h : S[i]? = some (.lst xs)) : gLen [.ref i] S = some (.int xs.length, S) := by
  unfold gLen itemsOf
  simp only [h, Option.map_some]
theorem nth_last {S G : Sto} {o : O} : (S ++ (o :: G))[S.length]? = some o := by
  rw [List.getElem?_append_right (Nat.le_refl _), Nat.sub_self]
  rfl
theorem rngOk_nat {n : Nat} (h : n < 2 ^ 60) : rngOk (n : Int) = true := by
  unfold rngOk
  rw [Bool.and_eq_true]
  exact ⟨decide_eq_true (by omega), decide_eq_true (by omega)⟩
theorem rngD_len {lo : Int} {n : Nat} : (rngD lo n).length = n := by
  unfold rngD
  rw [List.length_map, List.length_range]
theorem rngD_mem {n : Nat} {x : D} (h : x ∈ rngD 0 n) : ∃ k : Nat, k < n ∧ x = .int (k : Int) := by
  unfold rngD at h
  obtain ⟨k, hk, e⟩ := List.mem_map.mp h
  exact ⟨k, List.mem_range.mp hk, by rw [← e]; simp⟩
end Rf
namespace Rf
open PySem PySem.Spec PyProof.Rows L2
/-! ### sizes -/
def szI (n : Nat) (i : Int) : Prop := i.natAbs < 2 ^ n
theorem szI.mono {n m : Nat} {i : Int} (h : szI n i) (k : n ≤ m) : szI m i := Nat.lt_of_lt_of_le h (Nat.pow_le_pow_right (by decide) k)
theorem szI.mul {n m : Nat} {i j : Int} (h : szI n i) (k : szI m j) : szI (n + m) (i * j) := by
  unfold szI at *
  rw [Int.natAbs_mul, Nat.pow_add]
  exact Nat.mul_lt_mul'' h k
theorem szI.add {n m : Nat} {i j : Int} (h : szI n i) (k : szI m j) : szI (max n m + 1) (i + j) := by
  have h1 := h.mono (Nat.le_max_left n m)
  have k1 := k.mono (Nat.le_max_right n m)
  unfold szI at *
  rw [Nat.pow_succ]
  omega
theorem szI.neg {n : Nat} {i : Int} (h : szI n i) : szI n (-i) := by
  unfold szI at *
  rw [Int.natAbs_neg]
  exact h
theorem szI.le {n : Nat} {i j : Int} (h : szI n i) (k : j.natAbs ≤ i.natAbs) : szI n j := Nat.lt_of_le_of_lt k h
theorem szI.log {n : Nat} {i : Int} (h : szI n i) (h0 : 0 < n) : i.natAbs.log2 < n := PySem.Flt.log2_lt_of h0 h
theorem mulOk_sz {n m : Nat} {i j : Int} (h : szI n i) (k : szI m j) (h0 : 0 < n := by omega) (k0 : 0 < m := by omega) (s : n + m ≤ 900000 := by omega) : mulOk i j = true := by
  have h1 := h.log h0
  have k1 := k.log k0
  unfold mulOk
  rw [Bool.or_eq_true]
  exact .inr (decide_eq_true (by omega))
theorem divOk_sz {n : Nat} {i j : Int} (z : j ≠ 0) (h : szI n j) (h0 : 0 < n := by omega) (s : n ≤ 9000 := by omega) : divOk i j = true := by
  have h1 := h.log h0
  unfold divOk
  rw [Bool.and_eq_true]
  exact ⟨decide_eq_true z, decide_eq_true (by omega)⟩
/-! ### fractions -/
/-- a number -/
def nq (q : Rat) : D := .tup [.int q.num, .int (q.den : Int)]
def sz (n : Nat) (q : Rat) : Prop := szI n q.num ∧ szI n (q.den : Int)
theorem sz.mono {n m : Nat} {q : Rat} (h : sz n q) (k : n ≤ m) : sz m q := ⟨h.1.mono k, h.2.mono k⟩
theorem nq_of {q : Rat} {n d : Int} (h1 : n = q.num) (h2 : d = (q.den : Int)) : D.tup [.int n, .int d] = nq q := by
  rw [h1, h2]
  rfl
theorem norm_sz {n : Nat} {a : Int} {b : Nat} (hb : b ≠ 0) (ha : szI n a) (h : szI n (b : Int)) : sz n (Rat.normalize a b hb) := by
  rw [Rat.normalize_eq]
  refine ⟨ha.le ?_, h.le ?_⟩
  · show (a / ((a.natAbs.gcd b : Nat) : Int)).natAbs ≤ a.natAbs
    exact Int.natAbs_ediv_le_natAbs _ _
  · show ((b / a.natAbs.gcd b : Nat) : Int).natAbs ≤ ((b : Nat) : Int).natAbs
    exact Nat.div_le_self _ _
theorem sz_add {n m : Nat} {x y : Rat} (hx : sz n x) (hy : sz m y) : sz (n + m + 1) (x + y) := by
  rw [Rat.add_def]
  refine norm_sz _ ?_ ?_
  · have := (hx.1.mul hy.2).add (hy.1.mul hx.2)
    exact this.mono (by omega)
  · have := hx.2.mul hy.2
    rw [Int.natCast_mul]
    exact this.mono (by omega)
theorem sz_mul {n m : Nat} {x y : Rat} (hx : sz n x) (hy : sz m y) : sz (n + m) (x * y) := by
  rw [Rat.mul_def]
  refine norm_sz _ (hx.1.mul hy.1) ?_
  rw [Int.natCast_mul]
  exact hx.2.mul hy.2
theorem sz_neg {n : Nat} {x : Rat} (hx : sz n x) : sz n (-x) := ⟨by rw [Rat.neg_num]; exact hx.1.neg, hx.2⟩
theorem den_ne (q : Rat) : (q.den : Int) ≠ 0 := by
  have := q.den_pos
  omega
theorem gcd_pos_r {a b : Nat} (h : 0 < b) : 0 < a.gcd b := Nat.gcd_pos_of_pos_right _ h
theorem fdiv_nat {a : Int} {g : Nat} : a.fdiv (g : Int) = a / (g : Int) := Int.fdiv_eq_ediv_of_nonneg a (by omega)
/-- the sum, as the program reckons it -/
theorem add_parts (x y : Rat) : (x.den.gcd y.den = 1 → (x + y).num = x.num * y.den + x.den * y.num ∧ ((x + y).den : Int) = x.den * y.den) ∧
    (x.den.gcd y.den ≠ 1 → (x + y).num = (x.num * ((y.den : Int) / (x.den.gcd y.den : Nat)) + y.num * ((x.den : Int) / (x.den.gcd y.den : Nat))) / (((x.num * ((y.den : Int) / (x.den.gcd y.den : Nat)) + y.num * ((x.den : Int) / (x.den.gcd y.den : Nat))).natAbs.gcd (x.den.gcd y.den) : Nat) : Int) ∧
      ((x + y).den : Int) = ((x.den : Int) / (x.den.gcd y.den : Nat)) * ((y.den : Int) / (((x.num * ((y.den : Int) / (x.den.gcd y.den : Nat)) + y.num * ((x.den : Int) / (x.den.gcd y.den : Nat))).natAbs.gcd (x.den.gcd y.den) : Nat) : Int))) := by
  refine ⟨fun h => ?_, fun h => ?_⟩
  · show (Rat.add x y).num = _ ∧ ((Rat.add x y).den : Int) = _
    unfold Rat.add
    simp only [h, dite_true]
    exact ⟨by rw [Int.mul_comm y.num], by rw [Int.natCast_mul]⟩
  · show (Rat.add x y).num = _ ∧ ((Rat.add x y).den : Int) = _
    unfold Rat.add
    simp only [h, dite_false]
    rw [Rat.maybeNormalize_eq]
    simp only [Int.natCast_ediv]
    refine ⟨rfl, ?_⟩
    rw [Int.natCast_mul, Int.natCast_ediv]
    generalize hk : (x.num * ((y.den : Int) / (x.den.gcd y.den : Nat)) + y.num * ((x.den : Int) / (x.den.gcd y.den : Nat))).natAbs.gcd (x.den.gcd y.den) = k
    refine Int.mul_ediv_assoc _ ?_
    have h1 : k ∣ x.den.gcd y.den := by rw [← hk]; exact Nat.gcd_dvd_right _ _
    exact Int.ofNat_dvd.mpr (Nat.dvd_trans h1 (Nat.gcd_dvd_right _ _))
end Rf
namespace Rf
open PySem PySem.Spec PyProof.Rows L2
theorem mul_parts (x y : Rat) : (x * y).num = x.num / ((x.num.natAbs.gcd y.den : Nat) : Int) * (y.num / ((y.num.natAbs.gcd x.den : Nat) : Int)) ∧ ((x * y).den : Int) = (x.den : Int) / ((y.num.natAbs.gcd x.den : Nat) : Int) * ((y.den : Int) / ((x.num.natAbs.gcd y.den : Nat) : Int)) := by
  have e : x * y = Rat.mul x y := rfl
  rw [e]
  unfold Rat.mul
  simp only [Int.divExact_eq_ediv, Nat.divExact_eq_div]
  exact ⟨trivial, by rw [Int.natCast_mul, Int.natCast_ediv, Int.natCast_ediv]⟩
end Rf
namespace Gn
open PySem PySem.Spec PyProof.Rows L2 Rf
def topS (i : Nat) : Stmt := PySem.Challenge.pw_rootfast_k05_intervals_told.main.body.getD i (.Pass ⟨0, 0, 0, 0⟩)
abbrev s_is_number : Stmt := topS 2
abbrev s_compare : Stmt := topS 3
abbrev s_is_interval : Stmt := topS 5
abbrev s__law_cell : Stmt := topS 7
abbrev s__law_draws : Stmt := topS 8
abbrev s__law_is_bool : Stmt := topS 9
abbrev s__law_gcd : Stmt := topS 10
abbrev s__law_frac : Stmt := topS 11
abbrev s__law_less : Stmt := topS 12
abbrev s__law_any_number : Stmt := topS 13
abbrev s__law_values : Stmt := topS 14
abbrev s_law : Stmt := topS 15
theorem sc_is_number : FnScope ["value", "a", "b"] ["value"] (defScope s_is_number) := ⟨rfl, rfl, rfl, by decide +kernel, rfl, by decide +kernel, by decide +kernel⟩
theorem sc_compare : FnScope ["x", "y", "left", "right"] ["x", "y"] (defScope s_compare) := ⟨rfl, rfl, rfl, by decide +kernel, rfl, by decide +kernel, by decide +kernel⟩
theorem sc_is_interval : FnScope ["value", "low", "high"] ["value"] (defScope s_is_interval) := ⟨rfl, rfl, rfl, by decide +kernel, rfl, by decide +kernel, by decide +kernel⟩
theorem sc__law_cell : FnScope ["script", "k"] ["script", "k"] (defScope s__law_cell) := ⟨rfl, rfl, rfl, by decide +kernel, rfl, by decide +kernel, by decide +kernel⟩
theorem sc__law_draws : FnScope ["cell", "count", "rows", "left", "k", "mixed"] ["cell", "count"] (defScope s__law_draws) := ⟨rfl, rfl, rfl, by decide +kernel, rfl, by decide +kernel, by decide +kernel⟩
theorem sc__law_is_bool : FnScope ["x", "due"] ["x", "due"] (defScope s__law_is_bool) := ⟨rfl, rfl, rfl, by decide +kernel, rfl, by decide +kernel, by decide +kernel⟩
theorem sc__law_gcd : FnScope ["a", "b"] ["a", "b"] (defScope s__law_gcd) := ⟨rfl, rfl, rfl, by decide +kernel, rfl, by decide +kernel, by decide +kernel⟩
theorem sc__law_frac : FnScope ["a", "b", "common"] ["a", "b"] (defScope s__law_frac) := ⟨rfl, rfl, rfl, by decide +kernel, rfl, by decide +kernel, by decide +kernel⟩
theorem sc__law_less : FnScope ["x", "y"] ["x", "y"] (defScope s__law_less) := ⟨rfl, rfl, rfl, by decide +kernel, rfl, by decide +kernel, by decide +kernel⟩
theorem sc__law_any_number : FnScope ["draw", "more", "great"] ["draw", "more"] (defScope s__law_any_number) := ⟨rfl, rfl, rfl, by decide +kernel, rfl, by decide +kernel, by decide +kernel⟩
theorem sc__law_values : FnScope ["found"] [] (defScope s__law_values) := ⟨rfl, rfl, rfl, by decide +kernel, rfl, by decide +kernel, by decide +kernel⟩
theorem sc_law : FnScope ["script", "draws", "k", "x", "y", "value", "odd", "at"] ["script"] (defScope s_law) := ⟨rfl, rfl, rfl, by decide +kernel, rfl, by decide +kernel, by decide +kernel⟩
structure Adr where
  f_is_number : Addr
  d_is_number : FuncData
  f_compare : Addr
  d_compare : FuncData
  f_is_interval : Addr
  d_is_interval : FuncData
  f__law_cell : Addr
  d__law_cell : FuncData
  f__law_draws : Addr
  d__law_draws : FuncData
  f__law_is_bool : Addr
  d__law_is_bool : FuncData
  f__law_gcd : Addr
  d__law_gcd : FuncData
  f__law_frac : Addr
  d__law_frac : FuncData
  f__law_less : Addr
  d__law_less : FuncData
  f__law_any_number : Addr
  d__law_any_number : FuncData
  f__law_values : Addr
  d__law_values : FuncData
  f_law : Addr
  d_law : FuncData
def ecOf (a : Adr) : Str → Value := fun x =>  .none
structure Txt (K : PySem.W.Frag) (mg : Str → Option Value) (a : Adr) : Prop where
  F_is_number : Fun K "is_number" "is_number" s_is_number a.f_is_number a.d_is_number
  b_is_number : Binds K a.d_is_number ["value"] []
  g_is_number : mg "is_number" = some (.ref a.f_is_number)
  F_compare : Fun K "compare" "compare" s_compare a.f_compare a.d_compare
  b_compare : Binds K a.d_compare ["x", "y"] []
  g_compare : mg "compare" = some (.ref a.f_compare)
  F_is_interval : Fun K "is_interval" "is_interval" s_is_interval a.f_is_interval a.d_is_interval
  b_is_interval : Binds K a.d_is_interval ["value"] []
  g_is_interval : mg "is_interval" = some (.ref a.f_is_interval)
  F__law_cell : Fun K "_law_cell" "_law_cell" s__law_cell a.f__law_cell a.d__law_cell
  b__law_cell : Binds K a.d__law_cell ["script", "k"] []
  g__law_cell : mg "_law_cell" = some (.ref a.f__law_cell)
  F__law_draws : Fun K "_law_draws" "_law_draws" s__law_draws a.f__law_draws a.d__law_draws
  b__law_draws : Binds K a.d__law_draws ["cell", "count"] []
  g__law_draws : mg "_law_draws" = some (.ref a.f__law_draws)
  F__law_is_bool : Fun K "_law_is_bool" "_law_is_bool" s__law_is_bool a.f__law_is_bool a.d__law_is_bool
  b__law_is_bool : Binds K a.d__law_is_bool ["x", "due"] []
  g__law_is_bool : mg "_law_is_bool" = some (.ref a.f__law_is_bool)
  F__law_gcd : Fun K "_law_gcd" "_law_gcd" s__law_gcd a.f__law_gcd a.d__law_gcd
  b__law_gcd : Binds K a.d__law_gcd ["a", "b"] []
  g__law_gcd : mg "_law_gcd" = some (.ref a.f__law_gcd)
  F__law_frac : Fun K "_law_frac" "_law_frac" s__law_frac a.f__law_frac a.d__law_frac
  b__law_frac : Binds K a.d__law_frac ["a", "b"] []
  g__law_frac : mg "_law_frac" = some (.ref a.f__law_frac)
  F__law_less : Fun K "_law_less" "_law_less" s__law_less a.f__law_less a.d__law_less
  b__law_less : Binds K a.d__law_less ["x", "y"] []
  g__law_less : mg "_law_less" = some (.ref a.f__law_less)
  F__law_any_number : Fun K "_law_any_number" "_law_any_number" s__law_any_number a.f__law_any_number a.d__law_any_number
  b__law_any_number : Binds K a.d__law_any_number ["draw", "more"] []
  g__law_any_number : mg "_law_any_number" = some (.ref a.f__law_any_number)
  F__law_values : Fun K "_law_values" "_law_values" s__law_values a.f__law_values a.d__law_values
  b__law_values : Binds K a.d__law_values [] []
  g__law_values : mg "_law_values" = some (.ref a.f__law_values)
  F_law : Fun K "law" "law" s_law a.f_law a.d_law
  b_law : Binds K a.d_law ["script"] []
  g_law : mg "law" = some (.ref a.f_law)
  z_abs : mg "abs" = none
  z_int : mg "int" = none
  z_len : mg "len" = none
  z_range : mg "range" = none
  z_tuple : mg "tuple" = none
  z_type : mg "type" = none
  z_gcd : mg "gcd" = some (.builtin "math.gcd")
/-! ### the defs, by values -/
theorem mNilL : ∀ (ρ : Rf.Env) (S : Sto) (ds : List D) (S' : Sto), mNil ρ S = some (.val ds S') → ds.length = 0 := fun _ _ _ _ h => mNil_len h
def m_is_number : MS :=
    (sSeq (sIf (mOr (mT (mOp gNeTy (mBi gType (mCons (mVar 0) mNil)) (mRet (.ty "tuple")))) (mT (mOp gNe (mBi gLen (mCons (mVar 0) mNil)) (mRet (.int 2))))) (sRet (mRet (.bl false))) sNil)
    (sSeq (sAsg (tTp 2 (tCons' (tN 1) (tCons' (tN 2) tNil'))) (mVar 0))
    (sSeq (sIf (mOr (mT (mOp gNeTy (mBi gType (mCons (mVar 1) mNil)) (mRet (.ty "int")))) (mT (mOp gNeTy (mBi gType (mCons (mVar 2) mNil)) (mRet (.ty "int"))))) (sRet (mRet (.bl false))) sNil)
    (sRet (mAndV (mOp gGt (mVar 2) (mRet (.int 0))) (mOp gEq (mBi gGcd (mCons (mVar 1) (mCons (mVar 2) mNil))) (mRet (.int 1))))))))
def F_is_number : List D → Sto → Option (R D) := fnOf 3 m_is_number
def m_compare : MS :=
    (sSeq (sSet 2 (mOp gMul (mOp gIx (mVar 0) (mRet (.int 0))) (mOp gIx (mVar 1) (mRet (.int 1)))))
    (sSeq (sSet 3 (mOp gMul (mOp gIx (mVar 1) (mRet (.int 0))) (mOp gIx (mVar 0) (mRet (.int 1)))))
    (sSeq (sIf (mT (mOp gLt (mVar 2) (mVar 3))) (sRet (mUn gNeg (mRet (.int 1)))) sNil)
    (sRet (mIf (mT (mOp gGt (mVar 2) (mVar 3))) (mRet (.int 1)) (mRet (.int 0)))))))
def F_compare : List D → Sto → Option (R D) := fnOf 4 m_compare
def m__law_cell : MS :=
    (sSeq (sIf (mT (mOp gLt (mVar 1) (mBi gLen (mCons (mVar 0) mNil)))) (sRet (mOp gIx (mVar 0) (mVar 1))) sNil)
    (sRet (mRet (.int 0))))
def F__law_cell : List D → Sto → Option (R D) := fnOf 2 m__law_cell
def L0__law_draws : MS := (sIf (mAnd (mT (mOp gGe (mVar 0) (mOp gPow (mRet (.int 10)) (mRet (.int 18))))) (mT (mOp gGt (mVar 3) (mRet (.int 0))))) (sSeq (sEx (mApp (mVar 2) (mOp gMod (mBi gInt (mCons (mVar 3) mNil)) (mRet (.int 4096)))))
    (sSet 3 (mOp gDiv (mVar 3) (mRet (.int 4096))))) (sSeq (sSet 5 (mOp gMod (mBi gInt (mCons (mOp gAdd (mOp gMul (mVar 0) (mRet (.int 48271))) (mOp gMul (mOp gAdd (mVar 4) (mRet (.int 1))) (mRet (.int 69621)))) mNil)) (mRet (.int 2147483647))))
    (sSeq (sSet 5 (mOp gMod (mBi gInt (mCons (mOp gAdd (mOp gAdd (mOp gMul (mVar 5) (mVar 5)) (mOp gMul (mVar 5) (mRet (.int 16807)))) (mOp gMul (mVar 4) (mRet (.int 7919)))) mNil)) (mRet (.int 2147483629))))
    (sSeq (sSet 5 (mOp gMod (mBi gInt (mCons (mOp gAdd (mOp gAdd (mOp gMul (mVar 5) (mVar 5)) (mVar 0)) (mOp gMul (mRet (.int 13)) (mVar 4))) mNil)) (mRet (.int 2147483587))))
    (sEx (mApp (mVar 2) (mOp gMod (mOp gDiv (mVar 5) (mRet (.int 7))) (mRet (.int 4096)))))))))
def m__law_draws : MS :=
    (sSeq (sSet 2 (mLst mNil))
    (sSeq (sSet 3 (mVar 0))
    (sSeq (sFor (tN 4) (mRng1 (mCons (mVar 1) mNil)) L0__law_draws)
    (sRet (mVar 2)))))
def F__law_draws : List D → Sto → Option (R D) := fnOf 6 m__law_draws
def m__law_is_bool : MS :=
    (sSeq (sIf (mTru (mVar 1)) (sRet (mOp gIs (mVar 0) (mRet (.bl true)))) sNil)
    (sRet (mOp gIs (mVar 0) (mRet (.bl false)))))
def F__law_is_bool : List D → Sto → Option (R D) := fnOf 2 m__law_is_bool
def L0__law_gcd : M Bool := (mT (mOp gNe (mVar 1) (mRet (.int 0))))
def L1__law_gcd : MS := (sPar 0 1 (mCons (mVar 1) (mCons (mOp gMod (mBi gInt (mCons (mVar 0) mNil)) (mVar 1)) mNil)))
def m__law_gcd : MS :=
    (sSeq (sSet 0 (mBi gAbs (mCons (mVar 0) mNil)))
    (sSeq (sSet 1 (mBi gAbs (mCons (mVar 1) mNil)))
    (sSeq (sWhile L0__law_gcd L1__law_gcd)
    (sRet (mVar 0)))))
def F__law_gcd : List D → Sto → Option (R D) := fnOf 2 m__law_gcd
def m__law_less : MS :=
    (sRet (mOp gLt (mOp gMul (mOp gIx (mVar 0) (mRet (.int 0))) (mOp gIx (mVar 1) (mRet (.int 1)))) (mOp gMul (mOp gIx (mVar 1) (mRet (.int 0))) (mOp gIx (mVar 0) (mRet (.int 1))))))
def F__law_less : List D → Sto → Option (R D) := fnOf 2 m__law_less
def m__law_values : MS :=
    (sSeq (sSet 0 (mLst (mCons (mRet .non) (mCons (mRet (.bl true)) (mCons (mRet (.bl false)) (mCons (mRet (.int 0)) (mCons (mRet (.int 1)) (mCons (mRet (.str (PySem.Str.ofString ""))) (mCons (mRet (.str (PySem.Str.ofString "1"))) (mCons (mTup mNil) (mCons (mTup (mCons (mRet (.int 1)) mNil)) (mCons (mTup (mCons (mRet (.int 0)) (mCons (mRet (.int 0)) mNil))) (mCons (mTup (mCons (mRet (.int 1)) (mCons (mRet (.int 0)) mNil))) (mCons (mTup (mCons (mRet (.int 2)) (mCons (mRet (.int 4)) mNil))) (mCons (mTup (mCons (mUn gNeg (mRet (.int 3))) (mCons (mRet (.int 6)) mNil))) (mCons (mTup (mCons (mRet (.int 1)) (mCons (mUn gNeg (mRet (.int 1))) mNil))) (mCons (mTup (mCons (mRet (.bl true)) (mCons (mRet (.int 1)) mNil))) (mCons (mTup (mCons (mRet (.int 1)) (mCons (mRet (.bl true)) mNil))) mNil))))))))))))))))))
    (sRet (mOp gAdd (mVar 0) (mLst (mCons (mTup (mCons (mRet (.str (PySem.Str.ofString "1"))) (mCons (mRet (.str (PySem.Str.ofString "2"))) mNil))) (mCons (mTup (mCons (mRet (.int 1)) (mCons (mRet (.int 2)) (mCons (mRet (.int 3)) mNil)))) (mCons (mLst (mCons (mRet (.int 1)) (mCons (mRet (.int 2)) mNil))) (mCons (mTup (mCons (mTup (mCons (mRet (.int 0)) (mCons (mRet (.int 1)) mNil))) (mCons (mTup (mCons (mRet (.int 1)) (mCons (mRet (.int 1)) mNil))) mNil))) (mCons (mTup (mCons (mTup (mCons (mRet (.int 1)) (mCons (mRet (.int 1)) mNil))) (mCons (mTup (mCons (mRet (.int 0)) (mCons (mRet (.int 1)) mNil))) mNil))) (mCons (mLst mNil) (mCons (mTup (mCons (mTup (mCons (mRet (.int 0)) (mCons (mRet (.int 1)) mNil))) mNil)) (mCons mDct0 mNil))))))))))))
def F__law_values : List D → Sto → Option (R D) := fnOf 1 m__law_values
def m_is_interval : MS :=
    (sSeq (sIf (mOr (mT (mOp gNeTy (mBi gType (mCons (mVar 0) mNil)) (mRet (.ty "tuple")))) (mT (mOp gNe (mBi gLen (mCons (mVar 0) mNil)) (mRet (.int 2))))) (sRet (mRet (.bl false))) sNil)
    (sSeq (sAsg (tTp 2 (tCons' (tN 1) (tCons' (tN 2) tNil'))) (mVar 0))
    (sRet (mAndV (mCall F_is_number (mCons (mVar 1) mNil)) (mAndV (mCall F_is_number (mCons (mVar 2) mNil)) (mOp gLe (mCall F_compare (mCons (mVar 1) (mCons (mVar 2) mNil))) (mRet (.int 0))))))))
def F_is_interval : List D → Sto → Option (R D) := fnOf 3 m_is_interval
def m__law_frac : MS :=
    (sSeq (sSet 2 (mCall F__law_gcd (mCons (mVar 0) (mCons (mVar 1) mNil))))
    (sSeq (sIf (mT (mOp gLt (mVar 1) (mRet (.int 0)))) (sSet 2 (mUn gNeg (mVar 2))) sNil)
    (sRet (mTup (mCons (mOp gDiv (mVar 0) (mVar 2)) (mCons (mOp gDiv (mVar 1) (mVar 2)) mNil))))))
def F__law_frac : List D → Sto → Option (R D) := fnOf 3 m__law_frac
def m__law_any_number : MS :=
    (sSeq (sSet 2 (mBi gIntT (mCons (mOp gAdd (mRet (.str (PySem.Str.ofString "1"))) (mOp gMulT (mRet (.str (PySem.Str.ofString "0"))) (mOp gMod (mVar 1) (mRet (.int 40))))) mNil)))
    (sRet (mCall F__law_frac (mCons (mOp gAdd (mOp gMul (mOp gSub (mOp gMod (mVar 0) (mRet (.int 2001))) (mRet (.int 1000))) (mVar 2)) (mOp gMod (mVar 1) (mRet (.int 7)))) (mCons (mOp gAdd (mRet (.int 1)) (mOp gMul (mOp gMod (mOp gDiv (mVar 0) (mRet (.int 16))) (mRet (.int 9))) (mOp gAdd (mRet (.int 1)) (mOp gMul (mVar 2) (mOp gMod (mOp gDiv (mVar 1) (mRet (.int 40))) (mRet (.int 2))))))) mNil)))))
def F__law_any_number : List D → Sto → Option (R D) := fnOf 3 m__law_any_number
def L0_law : MS := (sIf (mT (mOp gIsNot (mCall F_is_interval (mCons (mVar 5) mNil)) (mRet (.bl false)))) (sRet (mRet (.bl false))) sNil)
def L1_law : MS := (sSeq (sSet 3 (mCall F__law_any_number (mCons (mOp gIx (mVar 1) (mOp gMul (mRet (.int 2)) (mVar 2))) (mCons (mOp gIx (mVar 1) (mOp gAdd (mOp gMul (mRet (.int 2)) (mVar 2)) (mRet (.int 1)))) mNil))))
    (sSeq (sSet 4 (mCall F__law_any_number (mCons (mOp gIx (mVar 1) (mOp gAdd (mOp gMul (mRet (.int 2)) (mVar 2)) (mRet (.int 1)))) (mCons (mOp gIx (mVar 1) (mOp gMul (mRet (.int 2)) (mVar 2))) mNil))))
    (sSeq (sIf (mT (mOp gEq (mOp gMod (mOp gDiv (mOp gIx (mVar 1) (mRet (.int 8))) (mOp gAdd (mVar 2) (mRet (.int 1)))) (mRet (.int 3))) (mRet (.int 1)))) (sSet 4 (mVar 3)) sNil)
    (sSeq (sIf (mNotB (mTru (mCall F__law_is_bool (mCons (mCall F_is_interval (mCons (mTup (mCons (mVar 3) (mCons (mVar 4) mNil))) mNil)) (mCons (mUn gNot (mCall F__law_less (mCons (mVar 4) (mCons (mVar 3) mNil)))) mNil))))) (sRet (mRet (.bl false))) sNil)
    (sFor (tN 5) (mSeq (mLst (mCons (mLst (mCons (mVar 3) (mCons (mVar 4) mNil))) (mCons (mTup (mCons (mVar 3) mNil)) (mCons (mTup (mCons (mVar 3) (mCons (mVar 4) (mCons (mVar 4) mNil)))) (mCons (mTup (mCons (mVar 3) (mCons (mRet (.int 3)) mNil))) (mCons (mTup (mCons (mTup (mCons (mOp gMul (mRet (.int 2)) (mOp gIx (mVar 3) (mRet (.int 0)))) (mCons (mOp gMul (mRet (.int 2)) (mOp gIx (mVar 3) (mRet (.int 1)))) mNil))) (mCons (mTup (mCons (mOp gPow (mRet (.int 10)) (mRet (.int 60))) (mCons (mRet (.int 1)) mNil))) mNil))) (mCons (mTup (mCons (mTup (mCons (mUn gNeg (mOp gPow (mRet (.int 10)) (mRet (.int 60)))) (mCons (mRet (.int 1)) mNil))) (mCons (mTup (mCons (mOp gIx (mVar 3) (mRet (.int 0))) (mCons (mUn gNeg (mOp gIx (mVar 3) (mRet (.int 1)))) mNil))) mNil))) (mCons (mTup (mCons (mRet .non) (mCons (mVar 4) mNil))) mNil))))))))) L0_law)))))
def L2_law : MS := (sIf (mNotB (mTru (mCall F__law_is_bool (mCons (mCall F_is_interval (mCons (mVar 5) mNil)) (mCons (mOp gEqX (mVar 5) (mTup (mCons (mTup (mCons (mRet (.int 0)) (mCons (mRet (.int 1)) mNil))) (mCons (mTup (mCons (mRet (.int 1)) (mCons (mRet (.int 1)) mNil))) mNil)))) mNil))))) (sRet (mRet (.bl false))) sNil)
def m_law : MS :=
    (sSeq (sSet 1 (mCall F__law_draws (mCons (mCall F__law_cell (mCons (mVar 0) (mCons (mRet (.int 0)) mNil))) (mCons (mRet (.int 9)) mNil))))
    (sSeq (sFor (tN 2) (mRng1 (mCons (mRet (.int 4)) mNil)) L1_law)
    (sSeq (sSet 6 (mCall0 F__law_values))
    (sSeq (sSet 7 (mOp gMod (mOp gIx (mVar 1) (mRet (.int 8))) (mBi gLen (mCons (mVar 6) mNil))))
    (sSeq (sFor (tN 5) (mSeq (mSl (mVar 6) (mVar 7) (mOp gAdd (mVar 7) (mRet (.int 8))))) L2_law)
    (sRet (mRet (.bl true))))))))
def F_law : List D → Sto → Option (R D) := fnOf 8 m_law
section
variable {P : Program} {w : World} {K : PySem.W.Frag} {mg : Str → Option Value} {base : Heap} {a : Adr}
theorem ok_is_number (T : Txt K mg a) : FnOk P w K mg base (L2.CX P w) 1 a.f_is_number a.d_is_number ["value"] (spF K (ecOf a) 1 F_is_number) := by
  refine fn_ok (m := m_is_number) (k := 0) T.F_is_number sc_is_number rfl fun cdv A outer s H E hr => ?_
  unfold m_is_number
  exact (xs_cons (x_if (xw_or (xt_cmp opS_neTy (x_biT callS_type T.z_type (by decide +kernel) (xa_cons (x_var 0) xa_nil)) (x_ty T.z_tuple (by decide +kernel))) (xw_or1 (xt_cmp opS_ne (x_biB callS_len T.z_len (by decide +kernel) (xa_cons (x_var 0) xa_nil)) x_int))).xt (xs_one (x_ret x_bl)) xs_nil)
    (xs_cons (x_asg (vs := [1, 2]) (x_var 0) (pg_tup rfl (pgs_cons (pg_name (i := 1) sc_is_number.nd rfl (by first | exact Or.inl rfl | exact Or.inr rfl)) (pgs_cons (pg_name (i := 2) sc_is_number.nd rfl (by first | exact Or.inl rfl | exact Or.inr rfl)) pgs_nil))) (tgs_tup (tgs_cons tgs_name (tgs_cons tgs_name tgs_nil))))
    (xs_cons (x_if (xw_or (xt_cmp opS_neTy (x_biT callS_type T.z_type (by decide +kernel) (xa_cons (x_var 1) xa_nil)) (x_ty T.z_int (by decide +kernel))) (xw_or1 (xt_cmp opS_neTy (x_biT callS_type T.z_type (by decide +kernel) (xa_cons (x_var 2) xa_nil)) (x_ty T.z_int (by decide +kernel))))).xt (xs_one (x_ret x_bl)) xs_nil)
    (xs_one (x_ret (x_andV (x_cmp opS_gt (x_var 2) x_int) (x_one (x_cmp opS_eq (x_biF callS_gcd T.z_gcd (xa_cons (x_var 1) (xa_cons (x_var 2) xa_nil))) x_int))))))))
theorem ok_compare (T : Txt K mg a) : FnOk P w K mg base (L2.CX P w) 1 a.f_compare a.d_compare ["x", "y"] (spF K (ecOf a) 2 F_compare) := by
  refine fn_ok (m := m_compare) (k := 0) T.F_compare sc_compare rfl fun cdv A outer s H E hr => ?_
  unfold m_compare
  exact (xs_cons (x_set 2 sc_compare.nd (x_bin opS_mul (x_ix (x_var 0) x_int) (x_ix (x_var 1) x_int)))
    (xs_cons (x_set 3 sc_compare.nd (x_bin opS_mul (x_ix (x_var 1) x_int) (x_ix (x_var 0) x_int)))
    (xs_cons (x_if (xt_cmp opS_lt (x_var 2) (x_var 3)) (xs_one (x_ret (x_neg x_int))) xs_nil)
    (xs_one (x_ret (x_ife (xt_cmp opS_gt (x_var 2) (x_var 3)) x_int x_int))))))
theorem ok__law_cell (T : Txt K mg a) : FnOk P w K mg base (L2.CX P w) 1 a.f__law_cell a.d__law_cell ["script", "k"] (spF K (ecOf a) 2 F__law_cell) := by
  refine fn_ok (m := m__law_cell) (k := 0) T.F__law_cell sc__law_cell rfl fun cdv A outer s H E hr => ?_
  unfold m__law_cell
  exact (xs_cons (x_if (xt_cmp opS_lt (x_var 1) (x_biB callS_len T.z_len (by decide +kernel) (xa_cons (x_var 0) xa_nil))) (xs_one (x_ret (x_ix (x_var 0) (x_var 1)))) xs_nil)
    (xs_one (x_ret x_int)))
theorem ok__law_draws (T : Txt K mg a) : FnOk P w K mg base (L2.CX P w) 1 a.f__law_draws a.d__law_draws ["cell", "count"] (spF K (ecOf a) 2 F__law_draws) := by
  refine fn_ok (m := m__law_draws) (k := 0) T.F__law_draws sc__law_draws rfl fun cdv A outer s H E hr => ?_
  unfold m__law_draws
  exact (xs_cons (x_set 2 sc__law_draws.nd (x_lst xa_nil))
    (xs_cons (x_set 3 sc__law_draws.nd (x_var 0))
    (xs_cons (x_for (vs := [4]) (passes_of rfl) rfl (xi_rng1 (xa_cons (x_var 1) xa_nil) T.z_range) (pg_name (i := 4) sc__law_draws.nd rfl (by first | exact Or.inl rfl | exact Or.inr rfl)) tgs_name (xs_one (x_if (xw_and (xt_cmp opS_ge (x_var 0) (x_bin opS_pow x_int x_int)) (xw_and1 (xt_cmp opS_gt (x_var 3) x_int))).xt (xs_cons (x_ex (x_app (x_var 2) (x_bin opS_mod (x_biT callS_int T.z_int (by decide +kernel) (xa_cons (x_var 3) xa_nil)) x_int)))
    (xs_one (x_set 3 sc__law_draws.nd (x_bin opS_div (x_var 3) x_int)))) (xs_cons (x_set 5 sc__law_draws.nd (x_bin opS_mod (x_biT callS_int T.z_int (by decide +kernel) (xa_cons (x_bin opS_add (x_bin opS_mul (x_var 0) x_int) (x_bin opS_mul (x_bin opS_add (x_var 4) x_int) x_int)) xa_nil)) x_int))
    (xs_cons (x_set 5 sc__law_draws.nd (x_bin opS_mod (x_biT callS_int T.z_int (by decide +kernel) (xa_cons (x_bin opS_add (x_bin opS_add (x_bin opS_mul (x_var 5) (x_var 5)) (x_bin opS_mul (x_var 5) x_int)) (x_bin opS_mul (x_var 4) x_int)) xa_nil)) x_int))
    (xs_cons (x_set 5 sc__law_draws.nd (x_bin opS_mod (x_biT callS_int T.z_int (by decide +kernel) (xa_cons (x_bin opS_add (x_bin opS_add (x_bin opS_mul (x_var 5) (x_var 5)) (x_var 0)) (x_bin opS_mul x_int (x_var 4))) xa_nil)) x_int))
    (xs_one (x_ex (x_app (x_var 2) (x_bin opS_mod (x_bin opS_div (x_var 5) x_int) x_int))))))))))
    (xs_one (x_ret (x_var 2))))))
theorem ok__law_is_bool (T : Txt K mg a) : FnOk P w K mg base (L2.CX P w) 1 a.f__law_is_bool a.d__law_is_bool ["x", "due"] (spF K (ecOf a) 2 F__law_is_bool) := by
  refine fn_ok (m := m__law_is_bool) (k := 0) T.F__law_is_bool sc__law_is_bool rfl fun cdv A outer s H E hr => ?_
  unfold m__law_is_bool
  exact (xs_cons (x_if (x_truth (x_var 1)) (xs_one (x_ret (x_cmp opS_is (x_var 0) x_bl))) xs_nil)
    (xs_one (x_ret (x_cmp opS_is (x_var 0) x_bl))))
theorem ok__law_gcd (T : Txt K mg a) : FnOk P w K mg base (L2.CX P w) 1 a.f__law_gcd a.d__law_gcd ["a", "b"] (spF K (ecOf a) 2 F__law_gcd) := by
  refine fn_ok (m := m__law_gcd) (k := 0) T.F__law_gcd sc__law_gcd rfl fun cdv A outer s H E hr => ?_
  unfold m__law_gcd
  exact (xs_cons (x_set 0 sc__law_gcd.nd (x_biB callS_abs T.z_abs (by decide +kernel) (xa_cons (x_var 0) xa_nil)))
    (xs_cons (x_set 1 sc__law_gcd.nd (x_biB callS_abs T.z_abs (by decide +kernel) (xa_cons (x_var 1) xa_nil)))
    (xs_cons (x_while (passes_of rfl) (xt_cmp opS_ne (x_var 1) x_int) (xs_one (x_par (i := 0) (j := 1) rfl sc__law_gcd.nd (xa_cons (x_var 1) (xa_cons (x_bin opS_mod (x_biT callS_int T.z_int (by decide +kernel) (xa_cons (x_var 0) xa_nil)) (x_var 1)) xa_nil)))))
    (xs_one (x_ret (x_var 0))))))
theorem ok__law_less (T : Txt K mg a) : FnOk P w K mg base (L2.CX P w) 1 a.f__law_less a.d__law_less ["x", "y"] (spF K (ecOf a) 2 F__law_less) := by
  refine fn_ok (m := m__law_less) (k := 0) T.F__law_less sc__law_less rfl fun cdv A outer s H E hr => ?_
  unfold m__law_less
  exact (xs_one (x_ret (x_cmp opS_lt (x_bin opS_mul (x_ix (x_var 0) x_int) (x_ix (x_var 1) x_int)) (x_bin opS_mul (x_ix (x_var 1) x_int) (x_ix (x_var 0) x_int)))))
theorem ok__law_values (T : Txt K mg a) : FnOk P w K mg base (L2.CX P w) 1 a.f__law_values a.d__law_values [] (spF K (ecOf a) 0 F__law_values) := by
  refine fn_ok (m := m__law_values) (k := 0) T.F__law_values sc__law_values rfl fun cdv A outer s H E hr => ?_
  unfold m__law_values
  exact (xs_cons (x_set 0 sc__law_values.nd (x_lst (xa_cons x_non (xa_cons x_bl (xa_cons x_bl (xa_cons x_int (xa_cons x_int (xa_cons x_str (xa_cons x_str (xa_cons (x_tup xa_nil) (xa_cons (x_tup (xa_cons x_int xa_nil)) (xa_cons (x_tup (xa_cons x_int (xa_cons x_int xa_nil))) (xa_cons (x_tup (xa_cons x_int (xa_cons x_int xa_nil))) (xa_cons (x_tup (xa_cons x_int (xa_cons x_int xa_nil))) (xa_cons (x_tup (xa_cons (x_neg x_int) (xa_cons x_int xa_nil))) (xa_cons (x_tup (xa_cons x_int (xa_cons (x_neg x_int) xa_nil))) (xa_cons (x_tup (xa_cons x_bl (xa_cons x_int xa_nil))) (xa_cons (x_tup (xa_cons x_int (xa_cons x_bl xa_nil))) xa_nil))))))))))))))))))
    (xs_one (x_ret (x_bin opS_add (x_var 0) (x_lst (xa_cons (x_tup (xa_cons x_str (xa_cons x_str xa_nil))) (xa_cons (x_tup (xa_cons x_int (xa_cons x_int (xa_cons x_int xa_nil)))) (xa_cons (x_lst (xa_cons x_int (xa_cons x_int xa_nil))) (xa_cons (x_tup (xa_cons (x_tup (xa_cons x_int (xa_cons x_int xa_nil))) (xa_cons (x_tup (xa_cons x_int (xa_cons x_int xa_nil))) xa_nil))) (xa_cons (x_tup (xa_cons (x_tup (xa_cons x_int (xa_cons x_int xa_nil))) (xa_cons (x_tup (xa_cons x_int (xa_cons x_int xa_nil))) xa_nil))) (xa_cons (x_lst xa_nil) (xa_cons (x_tup (xa_cons (x_tup (xa_cons x_int (xa_cons x_int xa_nil))) xa_nil)) (xa_cons x_dct0 xa_nil)))))))))))))
theorem ok_is_interval (T : Txt K mg a) : FnOk P w K mg base (L2.CX P w) 2 a.f_is_interval a.d_is_interval ["value"] (spF K (ecOf a) 1 F_is_interval) := by
  refine fn_ok (m := m_is_interval) (k := 1) T.F_is_interval sc_is_interval rfl fun cdv A outer s H E hr => ?_
  unfold m_is_interval
  exact (xs_cons (x_if (xw_or (xt_cmp opS_neTy (x_biT callS_type T.z_type (by decide +kernel) (xa_cons (x_var 0) xa_nil)) (x_ty T.z_tuple (by decide +kernel))) (xw_or1 (xt_cmp opS_ne (x_biB callS_len T.z_len (by decide +kernel) (xa_cons (x_var 0) xa_nil)) x_int))).xt (xs_one (x_ret x_bl)) xs_nil)
    (xs_cons (x_asg (vs := [1, 2]) (x_var 0) (pg_tup rfl (pgs_cons (pg_name (i := 1) sc_is_interval.nd rfl (by first | exact Or.inl rfl | exact Or.inr rfl)) (pgs_cons (pg_name (i := 2) sc_is_interval.nd rfl (by first | exact Or.inl rfl | exact Or.inr rfl)) pgs_nil))) (tgs_tup (tgs_cons tgs_name (tgs_cons tgs_name tgs_nil))))
    (xs_one (x_ret (x_andV (x_call (takes_of rfl rfl rfl rfl) (ok_is_number T) (hr.mono (by decide)) T.g_is_number T.F_is_number.kp T.b_is_number (xa_cons (x_var 1) xa_nil) (hms := (mCons_len mNilL))) (x_andV (x_call (takes_of rfl rfl rfl rfl) (ok_is_number T) (hr.mono (by decide)) T.g_is_number T.F_is_number.kp T.b_is_number (xa_cons (x_var 2) xa_nil) (hms := (mCons_len mNilL))) (x_one (x_cmp opS_le (x_call (takes_of rfl rfl rfl rfl) (ok_compare T) (hr.mono (by decide)) T.g_compare T.F_compare.kp T.b_compare (xa_cons (x_var 1) (xa_cons (x_var 2) xa_nil)) (hms := (mCons_len (mCons_len mNilL)))) x_int))))))))
theorem ok__law_frac (T : Txt K mg a) : FnOk P w K mg base (L2.CX P w) 2 a.f__law_frac a.d__law_frac ["a", "b"] (spF K (ecOf a) 2 F__law_frac) := by
  refine fn_ok (m := m__law_frac) (k := 1) T.F__law_frac sc__law_frac rfl fun cdv A outer s H E hr => ?_
  unfold m__law_frac
  exact (xs_cons (x_set 2 sc__law_frac.nd (x_call (takes_of rfl rfl rfl rfl) (ok__law_gcd T) (hr.mono (by decide)) T.g__law_gcd T.F__law_gcd.kp T.b__law_gcd (xa_cons (x_var 0) (xa_cons (x_var 1) xa_nil)) (hms := (mCons_len (mCons_len mNilL)))))
    (xs_cons (x_if (xt_cmp opS_lt (x_var 1) x_int) (xs_one (x_set 2 sc__law_frac.nd (x_neg (x_var 2)))) xs_nil)
    (xs_one (x_ret (x_tup (xa_cons (x_bin opS_div (x_var 0) (x_var 2)) (xa_cons (x_bin opS_div (x_var 1) (x_var 2)) xa_nil)))))))
theorem ok__law_any_number (T : Txt K mg a) : FnOk P w K mg base (L2.CX P w) 3 a.f__law_any_number a.d__law_any_number ["draw", "more"] (spF K (ecOf a) 2 F__law_any_number) := by
  refine fn_ok (m := m__law_any_number) (k := 2) T.F__law_any_number sc__law_any_number rfl fun cdv A outer s H E hr => ?_
  unfold m__law_any_number
  exact (xs_cons (x_set 2 sc__law_any_number.nd (x_biT callS_intT T.z_int (by decide +kernel) (xa_cons (x_bin opS_add x_str (x_bin opS_mulT x_str (x_bin opS_mod (x_var 1) x_int))) xa_nil)))
    (xs_one (x_ret (x_call (takes_of rfl rfl rfl rfl) (ok__law_frac T) (hr.mono (by decide)) T.g__law_frac T.F__law_frac.kp T.b__law_frac (xa_cons (x_bin opS_add (x_bin opS_mul (x_bin opS_sub (x_bin opS_mod (x_var 0) x_int) x_int) (x_var 2)) (x_bin opS_mod (x_var 1) x_int)) (xa_cons (x_bin opS_add x_int (x_bin opS_mul (x_bin opS_mod (x_bin opS_div (x_var 0) x_int) x_int) (x_bin opS_add x_int (x_bin opS_mul (x_var 2) (x_bin opS_mod (x_bin opS_div (x_var 1) x_int) x_int))))) xa_nil)) (hms := (mCons_len (mCons_len mNilL)))))))
theorem ok_law (T : Txt K mg a) : FnOk P w K mg base (L2.CX P w) 4 a.f_law a.d_law ["script"] (spF K (ecOf a) 1 F_law) := by
  refine fn_ok (m := m_law) (k := 3) T.F_law sc_law rfl fun cdv A outer s H E hr => ?_
  unfold m_law
  exact (xs_cons (x_set 1 sc_law.nd (x_call (takes_of rfl rfl rfl rfl) (ok__law_draws T) (hr.mono (by decide)) T.g__law_draws T.F__law_draws.kp T.b__law_draws (xa_cons (x_call (takes_of rfl rfl rfl rfl) (ok__law_cell T) (hr.mono (by decide)) T.g__law_cell T.F__law_cell.kp T.b__law_cell (xa_cons (x_var 0) (xa_cons x_int xa_nil)) (hms := (mCons_len (mCons_len mNilL)))) (xa_cons x_int xa_nil)) (hms := (mCons_len (mCons_len mNilL)))))
    (xs_cons (x_for (vs := [2]) (passes_of rfl) rfl (xi_rng1 (xa_cons x_int xa_nil) T.z_range) (pg_name (i := 2) sc_law.nd rfl (by first | exact Or.inl rfl | exact Or.inr rfl)) tgs_name (xs_cons (x_set 3 sc_law.nd (x_call (takes_of rfl rfl rfl rfl) (ok__law_any_number T) (hr.mono (by decide)) T.g__law_any_number T.F__law_any_number.kp T.b__law_any_number (xa_cons (x_ix (x_var 1) (x_bin opS_mul x_int (x_var 2))) (xa_cons (x_ix (x_var 1) (x_bin opS_add (x_bin opS_mul x_int (x_var 2)) x_int)) xa_nil)) (hms := (mCons_len (mCons_len mNilL)))))
    (xs_cons (x_set 4 sc_law.nd (x_call (takes_of rfl rfl rfl rfl) (ok__law_any_number T) (hr.mono (by decide)) T.g__law_any_number T.F__law_any_number.kp T.b__law_any_number (xa_cons (x_ix (x_var 1) (x_bin opS_add (x_bin opS_mul x_int (x_var 2)) x_int)) (xa_cons (x_ix (x_var 1) (x_bin opS_mul x_int (x_var 2))) xa_nil)) (hms := (mCons_len (mCons_len mNilL)))))
    (xs_cons (x_if (xt_cmp opS_eq (x_bin opS_mod (x_bin opS_div (x_ix (x_var 1) x_int) (x_bin opS_add (x_var 2) x_int)) x_int) x_int) (xs_one (x_set 4 sc_law.nd (x_var 3))) xs_nil)
    (xs_cons (x_if (xt_not (x_truth (x_call (takes_of rfl rfl rfl rfl) (ok__law_is_bool T) (hr.mono (by decide)) T.g__law_is_bool T.F__law_is_bool.kp T.b__law_is_bool (xa_cons (x_call (takes_of rfl rfl rfl rfl) (ok_is_interval T) (hr.mono (by decide)) T.g_is_interval T.F_is_interval.kp T.b_is_interval (xa_cons (x_tup (xa_cons (x_var 3) (xa_cons (x_var 4) xa_nil))) xa_nil) (hms := (mCons_len mNilL))) (xa_cons (x_not (x_call (takes_of rfl rfl rfl rfl) (ok__law_less T) (hr.mono (by decide)) T.g__law_less T.F__law_less.kp T.b__law_less (xa_cons (x_var 4) (xa_cons (x_var 3) xa_nil)) (hms := (mCons_len (mCons_len mNilL))))) xa_nil)) (hms := (mCons_len (mCons_len mNilL)))))) (xs_one (x_ret x_bl)) xs_nil)
    (xs_one (x_for (vs := [5]) (passes_of rfl) rfl (xi_seq (x_lst (xa_cons (x_lst (xa_cons (x_var 3) (xa_cons (x_var 4) xa_nil))) (xa_cons (x_tup (xa_cons (x_var 3) xa_nil)) (xa_cons (x_tup (xa_cons (x_var 3) (xa_cons (x_var 4) (xa_cons (x_var 4) xa_nil)))) (xa_cons (x_tup (xa_cons (x_var 3) (xa_cons x_int xa_nil))) (xa_cons (x_tup (xa_cons (x_tup (xa_cons (x_bin opS_mul x_int (x_ix (x_var 3) x_int)) (xa_cons (x_bin opS_mul x_int (x_ix (x_var 3) x_int)) xa_nil))) (xa_cons (x_tup (xa_cons (x_bin opS_pow x_int x_int) (xa_cons x_int xa_nil))) xa_nil))) (xa_cons (x_tup (xa_cons (x_tup (xa_cons (x_neg (x_bin opS_pow x_int x_int)) (xa_cons x_int xa_nil))) (xa_cons (x_tup (xa_cons (x_ix (x_var 3) x_int) (xa_cons (x_neg (x_ix (x_var 3) x_int)) xa_nil))) xa_nil))) (xa_cons (x_tup (xa_cons x_non (xa_cons (x_var 4) xa_nil))) xa_nil))))))))) (pg_name (i := 5) sc_law.nd rfl (by first | exact Or.inl rfl | exact Or.inr rfl)) tgs_name (xs_one (x_if (xt_cmp opS_isnot (x_call (takes_of rfl rfl rfl rfl) (ok_is_interval T) (hr.mono (by decide)) T.g_is_interval T.F_is_interval.kp T.b_is_interval (xa_cons (x_var 5) xa_nil) (hms := (mCons_len mNilL))) x_bl) (xs_one (x_ret x_bl)) xs_nil)))))))))
    (xs_cons (x_set 6 sc_law.nd (x_call0 (ok__law_values T) (hr.mono (by decide)) T.g__law_values T.F__law_values.kp T.b__law_values))
    (xs_cons (x_set 7 sc_law.nd (x_bin opS_mod (x_ix (x_var 1) x_int) (x_biB callS_len T.z_len (by decide +kernel) (xa_cons (x_var 6) xa_nil))))
    (xs_cons (x_for (vs := [5]) (passes_of rfl) rfl (xi_seq (x_sl (x_var 6) (x_var 7) (x_bin opS_add (x_var 7) x_int))) (pg_name (i := 5) sc_law.nd rfl (by first | exact Or.inl rfl | exact Or.inr rfl)) tgs_name (xs_one (x_if (xt_not (x_truth (x_call (takes_of rfl rfl rfl rfl) (ok__law_is_bool T) (hr.mono (by decide)) T.g__law_is_bool T.F__law_is_bool.kp T.b__law_is_bool (xa_cons (x_call (takes_of rfl rfl rfl rfl) (ok_is_interval T) (hr.mono (by decide)) T.g_is_interval T.F_is_interval.kp T.b_is_interval (xa_cons (x_var 5) xa_nil) (hms := (mCons_len mNilL))) (xa_cons (x_cmp (opS_eqX hr) (x_var 5) (x_tup (xa_cons (x_tup (xa_cons x_int (xa_cons x_int xa_nil))) (xa_cons (x_tup (xa_cons x_int (xa_cons x_int xa_nil))) xa_nil)))) xa_nil)) (hms := (mCons_len (mCons_len mNilL)))))) (xs_one (x_ret x_bl)) xs_nil)))
    (xs_one (x_ret x_bl)))))))
end
end Gn
namespace Gn
open PySem PySem.Spec PyProof.Rows L2 Rf
theorem e_compare {n : Nat} {x y : Rat} (hx : sz n x) (hy : sz n y) (S : Sto) (h0 : 0 < n := by omega) (hn : n ≤ 4000 := by omega) : F_compare [nq x, nq y] S = some (.val (.int (if x < y then -1 else if y < x then 1 else 0)) S) := by
  have m1 : mulOk x.num (y.den : Int) = true := mulOk_sz hx.1 hy.2
  have m2 : mulOk y.num (x.den : Int) = true := mulOk_sz hy.1 hx.2
  have l1 : decide (x.num * (y.den : Int) < y.num * (x.den : Int)) = decide (x < y) := by simp only [Rat.lt_iff]
  have l2 : decide (y.num * (x.den : Int) < x.num * (y.den : Int)) = decide (y < x) := by simp only [Rat.lt_iff]
  unfold F_compare m_compare nq
  by_cases c : x < y
  · simp only [fnOf, sSeq, sSet, sAsg, sB, mB, mOp, mRet, mUn, mBi, mCons, mNil, mTup, mCall, tTp, tCons', tN, tNil', Option.bind_some, Option.map_some, List.map_cons, List.map_nil, List.length_cons, List.length_nil, List.replicate, List.cons_append, List.nil_append, sRet, sIf, mT, mTru, mIf, mAnd, mOr, mNotB, sNil, var0, varS, set0, setS, ix0, ix1, add_ii, sub_ii, lt_ii, le_ii, gt_ii, ge_ii, eq_ii, ne_ii, neg_i, gcd_ii, abs_i, int_i, int_b, tru_b, Nat.reduceAdd, Nat.reduceSub, Nat.reduceLeDiff, if_true, mul_ii m1, mul_ii m2, l1, l2, c, decide_true, if_true]
  · by_cases c2 : y < x
    · simp only [fnOf, sSeq, sSet, sAsg, sB, mB, mOp, mRet, mUn, mBi, mCons, mNil, mTup, mCall, tTp, tCons', tN, tNil', Option.bind_some, Option.map_some, List.map_cons, List.map_nil, List.length_cons, List.length_nil, List.replicate, List.cons_append, List.nil_append, sRet, sIf, mT, mTru, mIf, mAnd, mOr, mNotB, sNil, var0, varS, set0, setS, ix0, ix1, add_ii, sub_ii, lt_ii, le_ii, gt_ii, ge_ii, eq_ii, ne_ii, neg_i, gcd_ii, abs_i, int_i, int_b, tru_b, Nat.reduceAdd, Nat.reduceSub, Nat.reduceLeDiff, if_true, mul_ii m1, mul_ii m2, l1, l2, c, c2, decide_true, decide_false, if_true, if_false]
    · simp only [fnOf, sSeq, sSet, sAsg, sB, mB, mOp, mRet, mUn, mBi, mCons, mNil, mTup, mCall, tTp, tCons', tN, tNil', Option.bind_some, Option.map_some, List.map_cons, List.map_nil, List.length_cons, List.length_nil, List.replicate, List.cons_append, List.nil_append, sRet, sIf, mT, mTru, mIf, mAnd, mOr, mNotB, sNil, var0, varS, set0, setS, ix0, ix1, add_ii, sub_ii, lt_ii, le_ii, gt_ii, ge_ii, eq_ii, ne_ii, neg_i, gcd_ii, abs_i, int_i, int_b, tru_b, Nat.reduceAdd, Nat.reduceSub, Nat.reduceLeDiff, if_true, mul_ii m1, mul_ii m2, l1, l2, c, c2, decide_true, decide_false, if_true, if_false]
/-! ### the law's own divisor -/
def ga (i : Int) : Int := if i < 0 then -i else i
theorem ga_nat (i : Int) : ga i = (i.natAbs : Int) := by
  unfold ga
  split <;> omega
theorem e_gcd_loop : ∀ (b n : Nat) (a : Nat) (S : Sto), b < n → loopW L0__law_gcd L1__law_gcd n [some (.int (a : Int)), some (.int (b : Int))] S = some (.nx [some (.int (Nat.gcd a b : Nat)), some (.int 0)] S) := by
  intro b
  induction b using Nat.strongRecOn with
  | _ b ih =>
    intro n a S hn
    obtain ⟨k, rfl⟩ : ∃ k, n = k + 1 := ⟨n - 1, by omega⟩
    by_cases c : b = 0
    · subst c
      refine (loopW_false (S1 := S) ?_).trans ?_
      · unfold L0__law_gcd
        simp only [fnOf, sSeq, sSet, sAsg, sB, mB, mOp, mRet, mUn, mBi, mCons, mNil, mTup, mCall, tTp, tCons', tN, tNil', Option.bind_some, Option.map_some, List.map_cons, List.map_nil, List.length_cons, List.length_nil, List.replicate, List.cons_append, List.nil_append, sRet, sIf, mT, mTru, mIf, mAnd, mOr, mNotB, sNil, sEx, sPar, var0, varS, set0, setS, ix0, ix1, add_ii, sub_ii, lt_ii, le_ii, gt_ii, ge_ii, eq_ii, ne_ii, neg_i, gcd_ii, abs_i, int_i, int_b, tru_b, Nat.reduceAdd, Nat.reduceSub, Nat.reduceLeDiff, if_true, show ((0 : Nat) : Int) = 0 from rfl, decide_true, Bool.not_true]
      · rw [Nat.gcd_zero_right]
        rfl
    · have hb : (b : Int) ≠ 0 := by omega
      have hb' : decide ((b : Int) = 0) = false := decide_eq_false hb
      have hm : (a : Int).fmod (b : Int) = ((a % b : Nat) : Int) := by
        rw [Int.fmod_eq_emod_of_nonneg _ (by omega)]
        rfl
      refine (loopW_true (S1 := S) (S' := S) (ρ' := [some (.int (b : Int)), some (.int ((a % b : Nat) : Int))]) ?_ ?_).trans ?_
      · unfold L0__law_gcd
        simp only [fnOf, sSeq, sSet, sAsg, sB, mB, mOp, mRet, mUn, mBi, mCons, mNil, mTup, mCall, tTp, tCons', tN, tNil', Option.bind_some, Option.map_some, List.map_cons, List.map_nil, List.length_cons, List.length_nil, List.replicate, List.cons_append, List.nil_append, sRet, sIf, mT, mTru, mIf, mAnd, mOr, mNotB, sNil, sEx, sPar, var0, varS, set0, setS, ix0, ix1, add_ii, sub_ii, lt_ii, le_ii, gt_ii, ge_ii, eq_ii, ne_ii, neg_i, gcd_ii, abs_i, int_i, int_b, tru_b, Nat.reduceAdd, Nat.reduceSub, Nat.reduceLeDiff, if_true, hb', Bool.not_false]
      · unfold L1__law_gcd
        simp only [fnOf, sSeq, sSet, sAsg, sB, mB, mOp, mRet, mUn, mBi, mCons, mNil, mTup, mCall, tTp, tCons', tN, tNil', Option.bind_some, Option.map_some, List.map_cons, List.map_nil, List.length_cons, List.length_nil, List.replicate, List.cons_append, List.nil_append, sRet, sIf, mT, mTru, mIf, mAnd, mOr, mNotB, sNil, sEx, sPar, var0, varS, set0, setS, ix0, ix1, add_ii, sub_ii, lt_ii, le_ii, gt_ii, ge_ii, eq_ii, ne_ii, neg_i, gcd_ii, abs_i, int_i, int_b, tru_b, Nat.reduceAdd, Nat.reduceSub, Nat.reduceLeDiff, if_true, mod_ii hb, hm]
      · rw [ih (a % b) (Nat.mod_lt _ (by omega)) k b S (by have := Nat.mod_lt a (show 0 < b by omega); omega)]
        rw [Nat.gcd_comm b, ← Nat.gcd_rec, Nat.gcd_comm]
theorem e_gcd {n : Nat} {a b : Int} (hb : szI n b) (S : Sto) (hn : n ≤ 1000000 := by omega) : F__law_gcd [.int a, .int b] S = some (.val (.int (Nat.gcd a.natAbs b.natAbs : Nat)) S) := by
  have hf : b.natAbs < fuel := lt_fuel hb (by omega)
  have l := e_gcd_loop b.natAbs fuel a.natAbs S hf
  unfold F__law_gcd m__law_gcd
  have e1 : (if a < 0 then -a else a) = (a.natAbs : Int) := ga_nat a
  have e2 : (if b < 0 then -b else b) = (b.natAbs : Int) := ga_nat b
  simp only [fnOf, sSeq, sSet, sAsg, sB, mB, mOp, mRet, mUn, mBi, mCons, mNil, mTup, mCall, tTp, tCons', tN, tNil', Option.bind_some, Option.map_some, List.map_cons, List.map_nil, List.length_cons, List.length_nil, List.replicate, List.cons_append, List.nil_append, sRet, sIf, mT, mTru, mIf, mAnd, mOr, mNotB, sNil, sEx, sPar, var0, varS, set0, setS, ix0, ix1, add_ii, sub_ii, lt_ii, le_ii, gt_ii, ge_ii, eq_ii, ne_ii, neg_i, gcd_ii, abs_i, int_i, int_b, tru_b, Nat.reduceAdd, Nat.reduceSub, Nat.reduceLeDiff, if_true, sWhile, e1, e2, l]
theorem frac_pos {a : Int} {b : Int} (hb : 0 < b) : (Rat.divInt a b).num = a / ((a.natAbs.gcd b.natAbs : Nat) : Int) ∧ ((Rat.divInt a b).den : Int) = b / ((a.natAbs.gcd b.natAbs : Nat) : Int) := by
  obtain ⟨m, rfl⟩ : ∃ m : Nat, b = m := ⟨b.toNat, by omega⟩
  have hm : m ≠ 0 := by omega
  rw [Rat.divInt_ofNat]
  unfold mkRat
  rw [dif_neg hm, Rat.normalize_eq]
  exact ⟨rfl, rfl⟩
theorem frac_neg {a : Int} {b : Int} (hb : b < 0) : (Rat.divInt a b).num = (-a) / ((a.natAbs.gcd b.natAbs : Nat) : Int) ∧ ((Rat.divInt a b).den : Int) = (-b) / ((a.natAbs.gcd b.natAbs : Nat) : Int) := by
  have h := frac_pos (a := -a) (b := -b) (by omega)
  rw [Int.natAbs_neg, Int.natAbs_neg] at h
  have e : Rat.divInt a b = Rat.divInt (-a) (-b) := by
    obtain ⟨m, rfl⟩ : ∃ m : Nat, b = Int.negSucc m := ⟨(-b - 1).toNat, by omega⟩
    show Rat.normalize (-a) m.succ (by omega) = mkRat (-a) (m + 1)
    unfold mkRat
    rw [dif_neg (by omega)]
  rw [e]
  exact h
theorem e_frac {n : Nat} {a b : Int} (hb0 : b ≠ 0) (hb : szI n b) (S : Sto) (h0 : 0 < n := by omega) (hn : n ≤ 9000 := by omega) : F__law_frac [.int a, .int b] S = some (.val (nq (Rat.divInt a b)) S) := by
  have eg := e_gcd (a := a) hb S (by omega)
  have g1 : (a.natAbs.gcd b.natAbs : Nat) ≠ 0 := Nat.ne_of_gt (gcd_pos_r (by omega))
  have sg : szI n ((a.natAbs.gcd b.natAbs : Nat) : Int) := hb.le (Nat.le_of_dvd (by omega) (Nat.gcd_dvd_right _ _))
  unfold F__law_frac m__law_frac
  by_cases c : b < 0
  · obtain ⟨p1, p2⟩ := frac_neg (a := a) c
    rw [← nq_of p1.symm p2.symm]
    have d1 : ∀ x, divOk x (-((a.natAbs.gcd b.natAbs : Nat) : Int)) = true := fun x => divOk_sz (by omega) sg.neg
    have n1 : ∀ x : Int, x.fdiv (-((a.natAbs.gcd b.natAbs : Nat) : Int)) = (-x) / ((a.natAbs.gcd b.natAbs : Nat) : Int) := fun x => by
      have := Int.neg_fdiv_neg (-x) ((a.natAbs.gcd b.natAbs : Nat) : Int)
      rw [Int.neg_neg] at this
      rw [this, fdiv_nat]
    simp only [fnOf, sSeq, sSet, sAsg, sB, mB, mOp, mRet, mUn, mBi, mCons, mNil, mTup, mCall, tTp, tCons', tN, tNil', Option.bind_some, Option.map_some, List.map_cons, List.map_nil, List.length_cons, List.length_nil, List.replicate, List.cons_append, List.nil_append, sRet, sIf, mT, mTru, mIf, mAnd, mOr, mNotB, sNil, sEx, sPar, var0, varS, set0, setS, ix0, ix1, add_ii, sub_ii, lt_ii, le_ii, gt_ii, ge_ii, eq_ii, ne_ii, neg_i, gcd_ii, abs_i, int_i, int_b, tru_b, Nat.reduceAdd, Nat.reduceSub, Nat.reduceLeDiff, if_true, eg, c, decide_true, div_ii (d1 _), n1]
  · obtain ⟨p1, p2⟩ := frac_pos (a := a) (b := b) (by omega)
    rw [← nq_of p1.symm p2.symm]
    have d1 : ∀ x, divOk x ((a.natAbs.gcd b.natAbs : Nat) : Int) = true := fun x => divOk_sz (by omega) sg
    simp only [fnOf, sSeq, sSet, sAsg, sB, mB, mOp, mRet, mUn, mBi, mCons, mNil, mTup, mCall, tTp, tCons', tN, tNil', Option.bind_some, Option.map_some, List.map_cons, List.map_nil, List.length_cons, List.length_nil, List.replicate, List.cons_append, List.nil_append, sRet, sIf, mT, mTru, mIf, mAnd, mOr, mNotB, sNil, sEx, sPar, var0, varS, set0, setS, ix0, ix1, add_ii, sub_ii, lt_ii, le_ii, gt_ii, ge_ii, eq_ii, ne_ii, neg_i, gcd_ii, abs_i, int_i, int_b, tru_b, Nat.reduceAdd, Nat.reduceSub, Nat.reduceLeDiff, if_true, eg, c, decide_false, div_ii (d1 _), fdiv_nat]
theorem sz_frac {n : Nat} {a b : Int} (hb0 : b ≠ 0) (ha : szI n a) (hb : szI n b) : sz n (Rat.divInt a b) := by
  by_cases c : b < 0
  · obtain ⟨p1, p2⟩ := frac_neg (a := a) c
    refine ⟨?_, ?_⟩
    · rw [p1]; exact ha.neg.le (Int.natAbs_ediv_le_natAbs _ _)
    · rw [p2]; exact hb.neg.le (Int.natAbs_ediv_le_natAbs _ _)
  · obtain ⟨p1, p2⟩ := frac_pos (a := a) (b := b) (by omega)
    refine ⟨?_, ?_⟩
    · rw [p1]; exact ha.le (Int.natAbs_ediv_le_natAbs _ _)
    · rw [p2]; exact hb.le (Int.natAbs_ediv_le_natAbs _ _)
/-! ### the script's cells and draws -/
theorem e_cell {ns : List Int} {k : Nat} (S : Sto) : ∃ c : Int, F__law_cell [.fro (ns.map D.int), .int (k : Int)] S = some (.val (.int c) S) := by
  unfold F__law_cell m__law_cell
  have hl : gLen [.fro (ns.map D.int)] S = some (.int (ns.length : Int), S) := by
    unfold gLen itemsOf
    simp
  by_cases c : k < ns.length
  · have c' : decide ((k : Int) < (ns.length : Int)) = true := decide_eq_true (by omega)
    refine ⟨ns[k], ?_⟩
    have hx : gIx (.fro (ns.map D.int)) (.int (k : Int)) S = some (.int ns[k], S) := by
      unfold gIx
      dsimp only
      show (some (ns.map D.int)).bind _ = _
      rw [Option.bind_some, atI_nat (v := .int ns[k]) (by rw [List.getElem?_map, List.getElem?_eq_getElem c]; rfl)]
      rfl
    simp only [fnOf, sSeq, sSet, sAsg, sB, mB, mOp, mRet, mUn, mBi, mCons, mNil, mTup, mCall, tTp, tCons', tN, tNil', Option.bind_some, Option.map_some, List.map_cons, List.map_nil, List.length_cons, List.length_nil, List.replicate, List.cons_append, List.nil_append, sRet, sIf, mT, mTru, mIf, mAnd, mOr, mNotB, sNil, sEx, sPar, var0, varS, set0, setS, ix0, ix1, add_ii, sub_ii, lt_ii, le_ii, gt_ii, ge_ii, eq_ii, ne_ii, neg_i, gcd_ii, abs_i, int_i, int_b, tru_b, Nat.reduceAdd, Nat.reduceSub, Nat.reduceLeDiff, if_true, hl, c', hx]
  · have c' : decide ((k : Int) < (ns.length : Int)) = false := decide_eq_false (by omega)
    exact ⟨0, by simp only [fnOf, sSeq, sSet, sAsg, sB, mB, mOp, mRet, mUn, mBi, mCons, mNil, mTup, mCall, tTp, tCons', tN, tNil', Option.bind_some, Option.map_some, List.map_cons, List.map_nil, List.length_cons, List.length_nil, List.replicate, List.cons_append, List.nil_append, sRet, sIf, mT, mTru, mIf, mAnd, mOr, mNotB, sNil, sEx, sPar, var0, varS, set0, setS, ix0, ix1, add_ii, sub_ii, lt_ii, le_ii, gt_ii, ge_ii, eq_ii, ne_ii, neg_i, gcd_ii, abs_i, int_i, int_b, tru_b, Nat.reduceAdd, Nat.reduceSub, Nat.reduceLeDiff, if_true, hl, c']⟩
theorem mulOk_r {i : Int} {n : Nat} (h : n < 2 ^ 63) : mulOk i (n : Int) = true := by
  unfold mulOk
  rw [Bool.or_eq_true, Bool.or_eq_true]
  exact .inl (.inr (decide_eq_true (by omega)))
theorem mulOk_l {i j : Int} (h : i.natAbs < 2 ^ 63) : mulOk i j = true := by
  unfold mulOk
  rw [Bool.or_eq_true, Bool.or_eq_true]
  exact .inl (.inl (decide_eq_true h))
theorem divOk_lit {i j : Int} (h : j ≠ 0) (h2 : j.natAbs < 2 ^ 63) : divOk i j = true := divOk_sz (n := 63) h h2
theorem fm {x m : Int} (h : 0 < m) : 0 ≤ x.fmod m ∧ x.fmod m < m := by
  rw [Int.fmod_eq_emod_of_nonneg _ (by omega)]
  exact ⟨Int.emod_nonneg _ (by omega), Int.emod_lt_of_pos _ h⟩
theorem e_draw_turn {cell left k : Int} {count : D} {x4 x5 : Option D} {S : Sto} {rows : List D} (hr : rows.length < 1000) (hk : k.natAbs < 2 ^ 60) : ∃ (r left' : Int) (x5' : Option D), 0 ≤ r ∧ r < 4096 ∧
    L0__law_draws [some (.int cell), some count, some (.ref S.length), some (.int left), some (.int k), x5] (S ++ [.lst rows]) = some (.nx [some (.int cell), some count, some (.ref S.length), some (.int left'), some (.int k), x5'] (S ++ [.lst (rows ++ [.int r])])) := by
  unfold L0__law_draws
  have d1 : ∀ i : Int, gDiv (.int i) (.int 4096) (S ++ [.lst (rows ++ [.int (left.fmod 4096)])]) = some (.int (i.fdiv 4096), S ++ [.lst (rows ++ [.int (left.fmod 4096)])]) := fun i => div_ii (divOk_lit (by decide) (by decide))
  by_cases c : 1000000000000000000 ≤ cell ∧ 0 < left
  · refine ⟨left.fmod 4096, left.fdiv 4096, x5, (fm (by decide)).1, (fm (by decide)).2, ?_⟩
    have ap := app_last (mo := mVar 2) (me := mOp gMod (mBi gInt (mCons (mVar 3) mNil)) (mRet (.int 4096))) (ρ := [some (.int cell), some count, some (.ref S.length), some (.int left), some (.int k), x5]) (S := S) (k := S.length) (xs := rows) (d := .int (left.fmod 4096)) rfl (by simp only [fnOf, sSeq, sSet, sAsg, sB, mB, mOp, mRet, mUn, mBi, mCons, mNil, mTup, mCall, tTp, tCons', tN, tNil', Option.bind_some, Option.map_some, List.map_cons, List.map_nil, List.length_cons, List.length_nil, List.replicate, List.cons_append, List.nil_append, sRet, sIf, mT, mTru, mIf, mAnd, mOr, mNotB, sNil, sEx, sPar, var0, varS, set0, setS, ix0, ix1, add_ii, sub_ii, lt_ii, le_ii, gt_ii, ge_ii, eq_ii, ne_ii, neg_i, gcd_ii, abs_i, int_i, int_b, tru_b, Nat.reduceAdd, Nat.reduceSub, Nat.reduceLeDiff, if_true]) (by simp only [fnOf, sSeq, sSet, sAsg, sB, mB, mOp, mRet, mUn, mBi, mCons, mNil, mTup, mCall, tTp, tCons', tN, tNil', Option.bind_some, Option.map_some, List.map_cons, List.map_nil, List.length_cons, List.length_nil, List.replicate, List.cons_append, List.nil_append, sRet, sIf, mT, mTru, mIf, mAnd, mOr, mNotB, sNil, sEx, sPar, var0, varS, set0, setS, ix0, ix1, add_ii, sub_ii, lt_ii, le_ii, gt_ii, ge_ii, eq_ii, ne_ii, neg_i, gcd_ii, abs_i, int_i, int_b, tru_b, Nat.reduceAdd, Nat.reduceSub, Nat.reduceLeDiff, if_true, mod_ii (show (4096 : Int) ≠ 0 by decide)]) (by omega)
    simp only [mOp, mB, mBi, mCons, mNil, mRet] at ap
    simp only [fnOf, sSeq, sSet, sAsg, sB, mB, mOp, mRet, mUn, mBi, mCons, mNil, mTup, mCall, tTp, tCons', tN, tNil', Option.bind_some, Option.map_some, List.map_cons, List.map_nil, List.length_cons, List.length_nil, List.replicate, List.cons_append, List.nil_append, sRet, sIf, mT, mTru, mIf, mAnd, mOr, mNotB, sNil, sEx, sPar, var0, varS, set0, setS, ix0, ix1, add_ii, sub_ii, lt_ii, le_ii, gt_ii, ge_ii, eq_ii, ne_ii, neg_i, gcd_ii, abs_i, int_i, int_b, tru_b, Nat.reduceAdd, Nat.reduceSub, Nat.reduceLeDiff, if_true, pow_1018, c.1, c.2, decide_true, ap, d1]
  · have e48 : gMul (.int cell) (.int 48271) (S ++ [.lst rows]) = some (.int (cell * 48271), S ++ [.lst rows]) := mul_ii (mulOk_r (n := 48271) (by decide))
    have e69 : gMul (.int (k + 1)) (.int 69621) (S ++ [.lst rows]) = some (.int ((k + 1) * 69621), S ++ [.lst rows]) := mul_ii (mulOk_r (n := 69621) (by decide))
    have e79 : gMul (.int k) (.int 7919) (S ++ [.lst rows]) = some (.int (k * 7919), S ++ [.lst rows]) := mul_ii (mulOk_r (n := 7919) (by decide))
    have e13 : gMul (.int 13) (.int k) (S ++ [.lst rows]) = some (.int (13 * k), S ++ [.lst rows]) := mul_ii (mulOk_l (by decide))
    have b1 := fm (x := cell * 48271 + (k + 1) * 69621) (m := 2147483647) (by decide)
    generalize hm1 : (cell * 48271 + (k + 1) * 69621).fmod 2147483647 = m1 at b1
    have q1 : gMul (.int m1) (.int m1) (S ++ [.lst rows]) = some (.int (m1 * m1), S ++ [.lst rows]) := mul_ii (mulOk_l (by omega))
    have q2 : gMul (.int m1) (.int 16807) (S ++ [.lst rows]) = some (.int (m1 * 16807), S ++ [.lst rows]) := mul_ii (mulOk_l (by omega))
    have b2 := fm (x := m1 * m1 + m1 * 16807 + k * 7919) (m := 2147483629) (by decide)
    generalize hm2 : (m1 * m1 + m1 * 16807 + k * 7919).fmod 2147483629 = m2 at b2
    have q3 : gMul (.int m2) (.int m2) (S ++ [.lst rows]) = some (.int (m2 * m2), S ++ [.lst rows]) := mul_ii (mulOk_l (by omega))
    generalize hm3 : (m2 * m2 + cell + 13 * k).fmod 2147483587 = m3
    have q7 : ∀ S' : Sto, gDiv (.int m3) (.int 7) S' = some (.int (m3.fdiv 7), S') := fun S' => div_ii (divOk_lit (by decide) (by decide))
    have o1 : ∀ x S', gMod (.int x) (.int 2147483647) S' = some (.int (x.fmod 2147483647), S') := fun x S' => mod_ii (by decide)
    have o2 : ∀ x S', gMod (.int x) (.int 2147483629) S' = some (.int (x.fmod 2147483629), S') := fun x S' => mod_ii (by decide)
    have o3 : ∀ x S', gMod (.int x) (.int 2147483587) S' = some (.int (x.fmod 2147483587), S') := fun x S' => mod_ii (by decide)
    have o4 : ∀ x S', gMod (.int x) (.int 4096) S' = some (.int (x.fmod 4096), S') := fun x S' => mod_ii (by decide)
    refine ⟨(m3.fdiv 7).fmod 4096, left, some (.int m3), (fm (by decide)).1, (fm (by decide)).2, ?_⟩
    have ap := app_last (mo := mVar 2) (me := mOp gMod (mOp gDiv (mVar 5) (mRet (.int 7))) (mRet (.int 4096))) (ρ := [some (.int cell), some count, some (.ref S.length), some (.int left), some (.int k), some (.int m3)]) (S := S) (k := S.length) (xs := rows) (d := .int ((m3.fdiv 7).fmod 4096)) rfl (by simp only [fnOf, sSeq, sSet, sAsg, sB, mB, mOp, mRet, mUn, mBi, mCons, mNil, mTup, mCall, tTp, tCons', tN, tNil', Option.bind_some, Option.map_some, List.map_cons, List.map_nil, List.length_cons, List.length_nil, List.replicate, List.cons_append, List.nil_append, sRet, sIf, mT, mTru, mIf, mAnd, mOr, mNotB, sNil, sEx, sPar, var0, varS, set0, setS, ix0, ix1, add_ii, sub_ii, lt_ii, le_ii, gt_ii, ge_ii, eq_ii, ne_ii, neg_i, gcd_ii, abs_i, int_i, int_b, tru_b, Nat.reduceAdd, Nat.reduceSub, Nat.reduceLeDiff, if_true]) (by simp only [fnOf, sSeq, sSet, sAsg, sB, mB, mOp, mRet, mUn, mBi, mCons, mNil, mTup, mCall, tTp, tCons', tN, tNil', Option.bind_some, Option.map_some, List.map_cons, List.map_nil, List.length_cons, List.length_nil, List.replicate, List.cons_append, List.nil_append, sRet, sIf, mT, mTru, mIf, mAnd, mOr, mNotB, sNil, sEx, sPar, var0, varS, set0, setS, ix0, ix1, add_ii, sub_ii, lt_ii, le_ii, gt_ii, ge_ii, eq_ii, ne_ii, neg_i, gcd_ii, abs_i, int_i, int_b, tru_b, Nat.reduceAdd, Nat.reduceSub, Nat.reduceLeDiff, if_true, q7, o4]) (by omega)
    simp only [mOp, mB, mRet] at ap
    by_cases c1 : 1000000000000000000 ≤ cell
    · have c2 : decide (0 < left) = false := decide_eq_false (by omega)
      simp only [fnOf, sSeq, sSet, sAsg, sB, mB, mOp, mRet, mUn, mBi, mCons, mNil, mTup, mCall, tTp, tCons', tN, tNil', Option.bind_some, Option.map_some, List.map_cons, List.map_nil, List.length_cons, List.length_nil, List.replicate, List.cons_append, List.nil_append, sRet, sIf, mT, mTru, mIf, mAnd, mOr, mNotB, sNil, sEx, sPar, var0, varS, set0, setS, ix0, ix1, add_ii, sub_ii, lt_ii, le_ii, gt_ii, ge_ii, eq_ii, ne_ii, neg_i, gcd_ii, abs_i, int_i, int_b, tru_b, Nat.reduceAdd, Nat.reduceSub, Nat.reduceLeDiff, if_true, pow_1018, c1, c2, decide_true, e48, e69, e79, e13, o1, o2, o3, hm1, hm2, hm3, q1, q2, q3, ap]
    · simp only [fnOf, sSeq, sSet, sAsg, sB, mB, mOp, mRet, mUn, mBi, mCons, mNil, mTup, mCall, tTp, tCons', tN, tNil', Option.bind_some, Option.map_some, List.map_cons, List.map_nil, List.length_cons, List.length_nil, List.replicate, List.cons_append, List.nil_append, sRet, sIf, mT, mTru, mIf, mAnd, mOr, mNotB, sNil, sEx, sPar, var0, varS, set0, setS, ix0, ix1, add_ii, sub_ii, lt_ii, le_ii, gt_ii, ge_ii, eq_ii, ne_ii, neg_i, gcd_ii, abs_i, int_i, int_b, tru_b, Nat.reduceAdd, Nat.reduceSub, Nat.reduceLeDiff, if_true, pow_1018, c1, decide_false, e48, e69, e79, e13, o1, o2, o3, hm1, hm2, hm3, q1, q2, q3, ap]
theorem e_draw_loop {cell : Int} {count : D} {S : Sto} : ∀ (n : Nat) (lo left : Int) (x4 x5 : Option D) (rows : List D), rows.length + n < 1000 → 0 ≤ lo → lo + (n : Int) < 2 ^ 40 → ∃ (new : List Int) (left' : Int) (x4' x5' : Option D), new.length = n ∧ (∀ r ∈ new, 0 ≤ r ∧ r < 4096) ∧
    forI (tN 4) L0__law_draws (rngD lo n) [some (.int cell), some count, some (.ref S.length), some (.int left), x4, x5] (S ++ [.lst rows]) = some (.nx [some (.int cell), some count, some (.ref S.length), some (.int left'), x4', x5'] (S ++ [.lst (rows ++ new.map D.int)]))
  | 0, lo, left, x4, x5, rows, h, h1, h2 => ⟨[], left, x4, x5, rfl, fun r hr => absurd hr (by simp), by rw [List.map_nil, List.append_nil]; rfl⟩
  | n + 1, lo, left, x4, x5, rows, h, h1, h2 => by
    obtain ⟨r, left1, x5', r0, r1, e⟩ := e_draw_turn (cell := cell) (left := left) (k := lo) (count := count) (x4 := x4) (x5 := x5) (S := S) (rows := rows) (by omega) (by omega)
    obtain ⟨new, left2, x4'', x5'', hl, hb, e2⟩ := e_draw_loop n (lo + 1) left1 (some (.int lo)) x5' (rows ++ [.int r]) (by rw [List.length_append, List.length_singleton]; omega) (by omega) (by omega)
    refine ⟨r :: new, left2, x4'', x5'', by rw [List.length_cons, hl], fun z hz => ?_, ?_⟩
    · rcases List.mem_cons.mp hz with rfl | hz
      · exact ⟨r0, r1⟩
      · exact hb z hz
    · rw [rngD_succ]
      refine (forI_nx (ρ1 := [some (.int cell), some count, some (.ref S.length), some (.int left), some (.int lo), x5]) rfl e).trans ?_
      rw [e2, List.map_cons, List.append_assoc, List.singleton_append]
/-- so many draws, each from 0 to 4095 -/
theorem e_draws (cell : Int) (n : Nat) (S : Sto) (hn : n < 900) : ∃ new : List Int, new.length = n ∧ (∀ r ∈ new, 0 ≤ r ∧ r < 4096) ∧ F__law_draws [.int cell, .int (n : Int)] S = some (.val (.ref S.length) (S ++ [.lst (new.map D.int)])) := by
  obtain ⟨new, left', x4', x5', hl, hb, e⟩ := e_draw_loop (cell := cell) (count := .int (n : Int)) (S := S) n 0 cell none none [] (by rw [List.length_nil]; omega) (by omega) (by omega)
  refine ⟨new, hl, hb, ?_⟩
  unfold F__law_draws m__law_draws
  have er : mRng1 (mCons (mVar 1) mNil) [some (.int cell), some (.int (n : Int)), some (.ref S.length), some (.int cell), none, none] (S ++ [.lst []]) = some (.val (sqIt (rngD 0 n)) (S ++ [.lst []])) := by
    refine (mRng1_eq (S1 := S ++ [.lst []]) (n := (n : Int)) (by simp only [fnOf, sSeq, sSet, sAsg, sB, mB, mOp, mRet, mUn, mBi, mCons, mNil, mTup, mCall, tTp, tCons', tN, tNil', Option.bind_some, Option.map_some, List.map_cons, List.map_nil, List.length_cons, List.length_nil, List.replicate, List.cons_append, List.nil_append, sRet, sIf, mT, mTru, mIf, mAnd, mOr, mNotB, sNil, sEx, sPar, var0, varS, set0, setS, ix0, ix1, add_ii, sub_ii, lt_ii, le_ii, gt_ii, ge_ii, eq_ii, ne_ii, neg_i, gcd_ii, abs_i, int_i, int_b, tru_b, Nat.reduceAdd, Nat.reduceSub, Nat.reduceLeDiff, if_true]) ?_).trans ?_
    · unfold rngOk
      rw [Bool.and_eq_true]
      exact ⟨decide_eq_true (by omega), decide_eq_true (by omega)⟩
    · rfl
  have ef := for_items (t := tN 4) (b := L0__law_draws) er (by
    unfold rngD
    rw [List.length_map, List.length_range]
    exact lt_fuel (show n < 2 ^ 10 by omega) (by omega))
  refine fn_ret ?_
  refine seq_nx (set_eq (d := .ref S.length) (S1 := S ++ [.lst []]) (by simp only [fnOf, sSeq, sSet, sAsg, sB, mB, mOp, mRet, mUn, mBi, mCons, mNil, mTup, mCall, tTp, tCons', tN, tNil', Option.bind_some, Option.map_some, List.map_cons, List.map_nil, List.length_cons, List.length_nil, List.replicate, List.cons_append, List.nil_append, sRet, sIf, mT, mTru, mIf, mAnd, mOr, mNotB, sNil, sEx, sPar, var0, varS, set0, setS, ix0, ix1, add_ii, sub_ii, lt_ii, le_ii, gt_ii, ge_ii, eq_ii, ne_ii, neg_i, gcd_ii, abs_i, int_i, int_b, tru_b, Nat.reduceAdd, Nat.reduceSub, Nat.reduceLeDiff, if_true, mLst, mNew])) ?_
  refine seq_nx (set_eq (d := .int cell) (S1 := S ++ [.lst []]) (by simp only [fnOf, sSeq, sSet, sAsg, sB, mB, mOp, mRet, mUn, mBi, mCons, mNil, mTup, mCall, tTp, tCons', tN, tNil', Option.bind_some, Option.map_some, List.map_cons, List.map_nil, List.length_cons, List.length_nil, List.replicate, List.cons_append, List.nil_append, sRet, sIf, mT, mTru, mIf, mAnd, mOr, mNotB, sNil, sEx, sPar, var0, varS, set0, setS, ix0, ix1, add_ii, sub_ii, lt_ii, le_ii, gt_ii, ge_ii, eq_ii, ne_ii, neg_i, gcd_ii, abs_i, int_i, int_b, tru_b, Nat.reduceAdd, Nat.reduceSub, Nat.reduceLeDiff, if_true])) ?_
  refine seq_nx (ef.trans e) ?_
  exact ret_eq (by simp only [fnOf, sSeq, sSet, sAsg, sB, mB, mOp, mRet, mUn, mBi, mCons, mNil, mTup, mCall, tTp, tCons', tN, tNil', Option.bind_some, Option.map_some, List.map_cons, List.map_nil, List.length_cons, List.length_nil, List.replicate, List.cons_append, List.nil_append, sRet, sIf, mT, mTru, mIf, mAnd, mOr, mNotB, sNil, sEx, sPar, var0, varS, set0, setS, ix0, ix1, add_ii, sub_ii, lt_ii, le_ii, gt_ii, ge_ii, eq_ii, ne_ii, neg_i, gcd_ii, abs_i, int_i, int_b, tru_b, Nat.reduceAdd, Nat.reduceSub, Nat.reduceLeDiff, if_true, List.nil_append])
end Gn

namespace Gn
open PySem PySem.Spec PyProof.Rows L2 Rf
/-! ### the law's equality -/
def dOk : Nat → D → Prop
  | 0, _ => False
  | _ + 1, .int _ => True
  | k + 1, .tup xs => xs.length < 900 ∧ ∀ x ∈ xs, dOk k x
  | _ + 1, _ => False
/-! ### the law's fractions -/
theorem dOk_nq (q : Rat) : dOk 3 (nq q) := by
  unfold nq
  refine ⟨by show 2 < 900; decide, fun x hx => ?_⟩
  rcases List.mem_cons.mp hx with rfl | hx
  · exact trivial
  · rcases List.mem_cons.mp hx with rfl | hx
    · exact trivial
    · cases hx
theorem e_same_q (q : Rat) (S : Sto) {k : Nat} (hk : 3 ≤ k := by omega) : True := trivial
theorem ix_n (q : Rat) (S : Sto) : gIx (nq q) (.int 0) S = some (.int q.num, S) := ix0
theorem ix_d (q : Rat) (S : Sto) : gIx (nq q) (.int 1) S = some (.int (q.den : Int), S) := ix1
theorem rat_parts (q : Rat) : Rat.divInt q.num q.den = q := Rat.num_divInt_den q
theorem e_law_less {n : Nat} {x y : Rat} (hx : sz n x) (hy : sz n y) (S : Sto) (h0 : 0 < n := by omega) (hn : n ≤ 4000 := by omega) : F__law_less [nq x, nq y] S = some (.val (.bl (decide (x < y))) S) := by
  have m1 := mulOk_sz hx.1 hy.2
  have m2 := mulOk_sz hy.1 hx.2
  have l1 : decide (x.num * (y.den : Int) < y.num * (x.den : Int)) = decide (x < y) := by simp only [Rat.lt_iff]
  unfold F__law_less m__law_less
  refine fn_ret (ret_eq (v_op (v_op (v_op (v_var rfl) v_ret (ix_n x S)) (v_op (v_var rfl) v_ret (ix_d y S)) (mul_ii m1)) (v_op (v_op (v_var rfl) v_ret (ix_n y S)) (v_op (v_var rfl) v_ret (ix_d x S)) (mul_ii m2)) ?_))
  rw [lt_ii, l1]
end Gn

namespace Gn
open PySem PySem.Spec PyProof.Rows L2 Rf
/-- an interval -/
def ni (l h : Rat) : D := .tup [nq l, nq h]
theorem ix_l (l h : Rat) (S : Sto) : gIx (ni l h) (.int 0) S = some (nq l, S) := ix0
theorem ix_h (l h : Rat) (S : Sto) : gIx (ni l h) (.int 1) S = some (nq h, S) := ix1
theorem two_le {a b : D} : [a, b].length ≤ 1000 := by show 2 ≤ 1000; decide
theorem v_pair {ρ : Rf.Env} {S S1 S2 : Sto} {ma mb : M D} {a b : D} (ha : ma ρ S = some (.val a S1)) (hb : mb ρ S1 = some (.val b S2)) : mTup (mCons ma (mCons mb mNil)) ρ S = some (.val (.tup [a, b]) S2) := v_tup (v_cons ha (v_cons hb v_nil)) two_le
theorem v_ife_t {ρ : Rf.Env} {S S1 : Sto} {mc : M Bool} {ma mb : M D} {r : Option (R D)} (h : mc ρ S = some (.val true S1)) (k : ma ρ S1 = r) : mIf mc ma mb ρ S = r := by
  unfold mIf mB
  simp only [h, k]
theorem v_ife_f {ρ : Rf.Env} {S S1 : Sto} {mc : M Bool} {ma mb : M D} {r : Option (R D)} (h : mc ρ S = some (.val false S1)) (k : mb ρ S1 = r) : mIf mc ma mb ρ S = r := by
  unfold mIf mB
  simp only [h, k]
theorem sz_ite {n : Nat} {x y : Rat} {p : Prop} [Decidable p] (hx : sz n x) (hy : sz n y) : sz n (if p then x else y) := by
  by_cases c : p
  · rw [if_pos c]; exact hx
  · rw [if_neg c]; exact hy
end Gn

namespace Gn
open PySem PySem.Spec PyProof.Rows L2 Rf
section
variable {ρ : Rf.Env} {S : Sto} {ma mb : M D} {d : D}
theorem andV_f (ha : ma ρ S = some (.val (.bl false) S)) : mAndV ma mb ρ S = some (.val (.bl false) S) := by
  unfold mAndV mB
  simp only [ha]
  rfl
theorem andV_t (ha : ma ρ S = some (.val (.bl true) S)) (hb : mb ρ S = some (.val d S)) : mAndV ma mb ρ S = some (.val d S) := by
  unfold mAndV mB
  simp only [ha]
  exact hb
end
theorem v_notV {ρ : Rf.Env} {S : Sto} {ma : M D} {p : Bool} (ha : ma ρ S = some (.val (.bl p) S)) : mUn gNot ma ρ S = some (.val (.bl (!p)) S) := v_un ha rfl
theorem gty {S : Sto} {d : D} {n : String} (h : tyD S d = some n) : gType [d] S = some (.ty n, S) := by
  unfold gType
  simp only [h, Option.map_some]
theorem ne_ty {S : Sto} {m n : String} (hm : tyK m = true) (hn : tyK n = true) : gNeTy (.ty m) (.ty n) S = some (.bl (!decide (m = n)), S) := by
  unfold gNeTy
  simp only [hm, hn, Bool.and_self, if_true]
theorem eq_str {S : Sto} {a b : Str} : gEq (.str a) (.str b) S = some (.bl (decide (a = b)), S) := rfl
theorem str_tl : (PySem.Str.ofString "tuple") ≠ (PySem.Str.ofString "list") := by decide +kernel
theorem forI_ret {t : Tgt} {b : MS} {x : D} {xs : List D} {ρ ρ1 : Rf.Env} {S S' : Sto} {d : D} (ht : t x ρ S = some ρ1) (hb : b ρ1 S = some (.ret d S')) : forI t b (x :: xs) ρ S = some (.ret d S') := by
  rw [forI]
  simp only [ht, hb]
/-! ### what a value is -/
def isI : D → Bool
  | .int _ => true
  | _ => false
def okD (S : Sto) (d : D) : Prop := ∃ n b1 b2, tyD S d = some n ∧ tyK n = true ∧ kitB n "int" = some b1 ∧ kitB n "bool" = some b2 ∧ (b1 && !b2) = isI d ∧ decide (n = "int") = isI d
theorem ok_int {S : Sto} (i : Int) : okD S (.int i) := ⟨"int", true, false, rfl, by decide, by decide +kernel, by decide +kernel, rfl, rfl⟩
theorem ok_bl {S : Sto} (i : Bool) : okD S (.bl i) := ⟨"bool", true, true, rfl, by decide, by decide +kernel, by decide +kernel, rfl, by show decide ("bool" = "int") = false; decide⟩
theorem ok_str {S : Sto} (i : Str) : okD S (.str i) := ⟨"str", false, false, rfl, by decide, by decide +kernel, by decide +kernel, rfl, by show decide ("str" = "int") = false; decide⟩
theorem ok_tup {S : Sto} (i : List D) : okD S (.tup i) := ⟨"tuple", false, false, rfl, by decide, by decide +kernel, by decide +kernel, rfl, by show decide ("tuple" = "int") = false; decide⟩
theorem kitT : kitB "tuple" "tuple" = some true := by decide +kernel
/-! ### is_number -/
theorem num_no {d : D} {n : String} {S : Sto} (h : tyD S d = some n) (hk : tyK n = true) (hn : n ≠ "tuple") : F_is_number [d] S = some (.val (.bl false) S) := by
  unfold F_is_number m_is_number
  refine fn_ret (seq_ret (if_t (v_or_t (v_T (v_op (v_bi (v_cons (v_var rfl) v_nil) (gty h)) v_ret ?_))) (ret_eq v_ret)))
  rw [ne_ty hk (by decide), decide_eq_false hn]
  rfl
theorem num_len {xs : List D} {S : Sto} (h : xs.length ≠ 2) : F_is_number [.tup xs] S = some (.val (.bl false) S) := by
  unfold F_is_number m_is_number
  refine fn_ret (seq_ret (if_t (v_or_f (v_T (v_op (v_bi (v_cons (v_var rfl) v_nil) (gty rfl)) v_ret (by rw [ne_ty (by decide) (by decide)]; rfl))) (v_T (v_op (v_bi (v_cons (v_var rfl) v_nil) len_tup) v_ret ?_))) (ret_eq v_ret)))
  rw [ne_ii, decide_eq_false (by omega)]
  rfl
def gz (i j : Int) : Bool := decide (0 < j) && decide (((Nat.gcd i.natAbs j.natAbs : Nat) : Int) = 1)
def gz2 : D → D → Bool
  | .int i, .int j => gz i j
  | _, _ => false
theorem num_pair {x y : D} {S : Sto} (hx : okD S x) (hy : okD S y) : F_is_number [.tup [x, y]] S = some (.val (.bl (gz2 x y)) S) := by
  obtain ⟨n, _, _, h1, h2, _, _, _, h3⟩ := hx
  obtain ⟨n', _, _, k1, k2, _, _, _, k3⟩ := hy
  have c1 : mT (mOp gNeTy (mBi gType (mCons (mVar 1) mNil)) (mRet (.ty "int"))) [some (.tup [x, y]), some x, some y] S = some (.val (!(isI x)) S) := v_T (v_op (v_bi (v_cons (v_var rfl) v_nil) (gty h1)) v_ret (by rw [ne_ty h2 (by decide), h3]))
  have c2 : mT (mOp gNeTy (mBi gType (mCons (mVar 2) mNil)) (mRet (.ty "int"))) [some (.tup [x, y]), some x, some y] S = some (.val (!(isI y)) S) := v_T (v_op (v_bi (v_cons (v_var rfl) v_nil) (gty k1)) v_ret (by rw [ne_ty k2 (by decide), k3]))
  unfold F_is_number m_is_number
  refine fn_ret ?_
  refine seq_nx (skip (v_or_f (v_T (v_op (v_bi (v_cons (v_var rfl) v_nil) (gty rfl)) v_ret (by rw [ne_ty (by decide) (by decide)]; rfl))) (v_T (v_op (v_bi (v_cons (v_var rfl) v_nil) len_tup) v_ret (by rw [ne_ii]; rfl))))) ?_
  refine seq_nx (ρ' := [some (.tup [x, y]), some x, some y]) (S' := S) rfl ?_
  cases hxi : isI x with
  | false =>
    rw [hxi] at c1
    refine seq_ret (if_t (v_or_t c1) (ret_eq ?_))
    cases x <;> first | exact v_ret | cases hxi
  | true =>
    rw [hxi] at c1
    cases hyi : isI y with
    | false =>
      rw [hyi] at c2
      refine seq_ret (if_t (v_or_f c1 c2) (ret_eq ?_))
      cases x with
      | int i => cases y <;> first | exact v_ret | cases hyi
      | _ => cases hxi
    | true =>
      rw [hyi] at c2
      refine seq_nx (skip (v_or_f c1 c2)) (ret_eq ?_)
      cases x with
      | int i =>
        cases y with
        | int j =>
          show _ = some (R.val (D.bl (gz i j)) S)
          unfold gz
          have a1 : mOp gGt (mVar 2) (mRet (.int 0)) [some (.tup [.int i, .int j]), some (.int i), some (.int j)] S = some (.val (.bl (decide (0 < j))) S) := v_op (v_var rfl) v_ret gt_ii
          have a2 : mOp gEq (mBi gGcd (mCons (mVar 1) (mCons (mVar 2) mNil))) (mRet (.int 1)) [some (.tup [.int i, .int j]), some (.int i), some (.int j)] S = some (.val (.bl (decide (((Nat.gcd i.natAbs j.natAbs : Nat) : Int) = 1))) S) := v_op (v_bi (v_cons (v_var rfl) (v_cons (v_var rfl) v_nil)) gcd_ii) v_ret eq_ii
          cases hp : decide (0 < j) with
          | true => rw [hp] at a1; rw [Bool.true_and]; exact andV_t a1 a2
          | false => rw [hp] at a1; rw [Bool.false_and]; exact andV_f a1
        | _ => cases hyi
      | _ => cases hxi
theorem e_is_bool (p : Bool) (S : Sto) : F__law_is_bool [.bl p, .bl p] S = some (.val (.bl true) S) := by
  unfold F__law_is_bool m__law_is_bool
  cases p with
  | true => exact fn_ret (seq_ret (if_t (v_tru (v_var rfl) rfl) (ret_eq (v_op (v_var rfl) v_ret rfl))))
  | false => exact fn_ret (seq_nx (skip (v_tru (v_var rfl) rfl)) (ret_eq (v_op (v_var rfl) v_ret rfl)))
end Gn

namespace Gn
open PySem PySem.Spec PyProof.Rows L2 Rf
theorem e_ten {ρ : Rf.Env} {S : Sto} {me : M D} {t : Int} (h : me ρ S = some (.val (.int t) S)) : ∃ m : Nat, m < 2 ^ 140 ∧ mBi gIntT (mCons (mOp gAdd (mRet (.str (PySem.Str.ofString "1"))) (mOp gMulT (mRet (.str (PySem.Str.ofString "0"))) (mOp gMod me (mRet (.int 40))))) mNil) ρ S = some (.val (.int (m : Int)) S) := by
  have b := fm (x := t) (m := 40) (by decide)
  have mt := mod_ii (i := t) (j := 40) (S := S) (by decide)
  obtain ⟨n, hn⟩ : ∃ n : Nat, t.fmod 40 = (n : Int) := ⟨(t.fmod 40).toNat, by omega⟩
  rw [hn] at mt b
  obtain ⟨m, e1, e2, e3⟩ := ten_text ⟨n, by omega⟩
  dsimp only at e1 e3
  refine ⟨m, e2, ?_⟩
  have len0 : (PySem.Str.ofString "0").length = 1 := by decide +kernel
  have g1 : gMulT (.str (PySem.Str.ofString "0")) (.int (n : Int)) S = some (.str (Txt.mul (PySem.Str.ofString "0") (n : Int)), S) := by
    have x1 : gMul (.str (PySem.Str.ofString "0")) (.int (n : Int)) S = none := rfl
    have x2 : gRep (.str (PySem.Str.ofString "0")) (.int (n : Int)) S = some (.str (Txt.mul (PySem.Str.ofString "0") (n : Int)), S) := by
      unfold gRep
      dsimp only
      rw [if_pos]
      rw [Bool.and_eq_true]
      exact ⟨decide_eq_true len0, decide_eq_true (by omega)⟩
    unfold gMulT orG
    rw [x1]
    exact x2
  have g2 : gAdd (.str (PySem.Str.ofString "1")) (.str (Txt.mul (PySem.Str.ofString "0") (n : Int))) S = some (.str (PySem.Str.ofString "1" ++ Txt.mul (PySem.Str.ofString "0") (n : Int)), S) := by
    have le : (PySem.Str.ofString "1").length + (Txt.mul (PySem.Str.ofString "0") (n : Int)).length ≤ 1000000 := by
      have l1 : (PySem.Str.ofString "1").length = 1 := by decide +kernel
      have l2 := PyProof.Rows.len_mul_k1 (n := (n : Int)) len0
      split at l2 <;> omega
    generalize Txt.mul (PySem.Str.ofString "0") (n : Int) = w at *
    have x1 : (gI (fun _ _ => true) fun i j => .int (i + j)) (.str (PySem.Str.ofString "1")) (.str w) S = none := rfl
    have x2 : (gS (fun i j => decide (i.length + j.length ≤ 1000000)) fun i j => .str (i ++ j)) (.str (PySem.Str.ofString "1")) (.str w) S = some (.str (PySem.Str.ofString "1" ++ w), S) := by
      unfold gS
      dsimp only
      rw [if_pos (decide_eq_true le)]
    unfold gAdd orG
    rw [x1]
    dsimp only
    rw [x2]
  refine v_bi (v_cons (v_op v_ret (v_op v_ret (v_op h v_ret mt) g1) g2) v_nil) ?_
  generalize PySem.Str.ofString "1" ++ Txt.mul (PySem.Str.ofString "0") (n : Int) = w at *
  have x1 : gInt [.str w] S = none := rfl
  unfold gIntT
  rw [x1]
  dsimp only
  unfold gIntS
  dsimp only
  rw [if_pos e3, e1]
  rfl
theorem e_any_number (r t : Int) (S : Sto) : ∃ q : Rat, sz 160 q ∧ F__law_any_number [.int r, .int t] S = some (.val (nq q) S) := by
  obtain ⟨m, hm, em⟩ := e_ten (ρ := [some (.int r), some (.int t), none]) (S := S) (me := mVar 1) (t := t) (v_var rfl)
  have b1 := fm (x := r) (m := 2001) (by decide)
  have b2 := fm (x := t) (m := 7) (by decide)
  have b3 := fm (x := r.fdiv 16) (m := 9) (by decide)
  have b4 := fm (x := t.fdiv 40) (m := 2) (by decide)
  have s1 : szI 10 (r.fmod 2001 - 1000) := by unfold szI; omega
  have sm : szI 140 (m : Int) := by unfold szI; rw [Int.natAbs_natCast]; exact hm
  have s2 : szI 3 (t.fmod 7) := by unfold szI; omega
  have s3 : szI 4 ((r.fdiv 16).fmod 9) := by unfold szI; omega
  have s4 : szI 1 ((t.fdiv 40).fmod 2) := by unfold szI; omega
  have o1 : szI 1 1 := by unfold szI; decide
  have m1 : mulOk (r.fmod 2001 - 1000) (m : Int) = true := mulOk_sz s1 sm
  have m2 : mulOk (m : Int) ((t.fdiv 40).fmod 2) = true := mulOk_sz sm s4
  have w1 := o1.add (sm.mul s4)
  have m3 : mulOk ((r.fdiv 16).fmod 9) (1 + (m : Int) * (t.fdiv 40).fmod 2) = true := mulOk_sz s3 w1
  have w2 := (o1.add (s3.mul w1)).mono (m := 160) (by omega)
  have w3 := ((s1.mul sm).add s2).mono (m := 160) (by omega)
  have pos : 0 ≤ (r.fdiv 16).fmod 9 * (1 + (m : Int) * (t.fdiv 40).fmod 2) := Int.mul_nonneg b3.1 (by have := Int.mul_nonneg (a := (m : Int)) (by omega) b4.1; omega)
  have z : 1 + (r.fdiv 16).fmod 9 * (1 + (m : Int) * (t.fdiv 40).fmod 2) ≠ 0 := by omega
  refine ⟨_, sz_frac z w3 w2, ?_⟩
  unfold F__law_any_number m__law_any_number
  refine fn_ret ?_
  refine seq_nx (set_eq em) ?_
  exact ret_eq (v_call (v_cons (v_op (v_op (v_op (v_op (v_var rfl) v_ret (mod_ii (by decide))) v_ret sub_ii) (v_var rfl) (mul_ii m1)) (v_op (v_var rfl) v_ret (mod_ii (by decide))) add_ii)
    (v_cons (v_op v_ret (v_op (v_op (v_op (v_var rfl) v_ret (div_ii (divOk_lit (by decide) (by decide)))) v_ret (mod_ii (by decide))) (v_op v_ret (v_op (v_var rfl) (v_op (v_op (v_var rfl) v_ret (div_ii (divOk_lit (by decide) (by decide)))) v_ret (mod_ii (by decide))) (mul_ii m2)) add_ii) (mul_ii m3)) add_ii) v_nil)) (e_frac z w2 S))
theorem get_app {S G : Sto} {i : Nat} {o : O} (h : S[i]? = some o) : (S ++ G)[i]? = some o := by
  rw [List.getElem?_append_left]
  · exact h
  · exact (List.getElem?_eq_some_iff.mp h).1
theorem seq_of {m : M D} {ρ : Rf.Env} {S S1 : Sto} {id : Nat} {xs : List D} (hv : m ρ S = some (.val (.ref id) S1)) (h : S1[id]? = some (.lst xs)) : mSeq m ρ S = some (.val (sqRef id) S1) := by
  refine v_seq hv ?_
  unfold sqOf
  simp only [h]
theorem for_ref {t : Tgt} {it : M Sq} {b : MS} {ρ : Rf.Env} {S S1 : Sto} {id : Nat} {r : Option RS} (h : it ρ S = some (.val (sqRef id) S1)) (k : loopQ t b (sqRef id) fuel 0 ρ S1 = r) : sFor t it b ρ S = r := by
  unfold sFor sB
  simp only [h, k]
/-- a loop over a list of the store that leaves the store as it is -/
theorem ref_all {t : Tgt} {b : MS} {id : Nat} {S : Sto} {xs : List D} (hs : S[id]? = some (.lst xs)) (P : Rf.Env → Prop) (h : ∀ x ∈ xs, ∀ ρ, P ρ → ∃ ρ1 ρ', t x ρ S = some ρ1 ∧ b ρ1 S = some (.nx ρ' S) ∧ P ρ') : ∀ (n i : Nat) (ρ : Rf.Env), P ρ → xs.length - i < n → ∃ ρ', loopQ t b (sqRef id) n i ρ S = some (.nx ρ' S) ∧ P ρ'
  | 0, i, ρ, p, hn => absurd hn (by omega)
  | n + 1, i, ρ, p, hn => by
    by_cases k : i < xs.length
    · have e : sqRef id i S = some (some xs[i]) := by
        unfold sqRef
        simp only [hs, List.getElem?_eq_getElem k]
      obtain ⟨ρ1, ρ2, ht, hb, p'⟩ := h _ (List.getElem_mem k) ρ p
      obtain ⟨ρ', e2, p2⟩ := ref_all hs P h n (i + 1) ρ2 p' (by omega)
      refine ⟨ρ', ?_, p2⟩
      rw [loopQ]
      simp only [e, ht, hb]
      exact e2
    · have e : sqRef id i S = some none := by
        unfold sqRef
        simp only [hs, List.getElem?_eq_none (Nat.le_of_not_lt k)]
      refine ⟨ρ, ?_, p⟩
      rw [loopQ]
      simp only [e]
theorem ty_lst {S : Sto} {i : Nat} {xs : List D} (h : S[i]? = some (.lst xs)) : tyD S (.ref i) = some "list" := by
  unfold tyD
  simp only [h]
/-! ### the odd values -/
theorem okNo0 {S : Sto} : ∀ x ∈ ([] : List D), okD S x := fun x h => nomatch h
theorem all_cons {P : D → Prop} {x : D} {xs : List D} (h : P x) (t : ∀ y ∈ xs, P y) : ∀ y ∈ x :: xs, P y := fun y hy => by
  rcases List.mem_cons.mp hy with rfl | hy
  · exact h
  · exact t y hy
theorem all_app {P : D → Prop} {xs ys : List D} (h : ∀ y ∈ xs, P y) (t : ∀ y ∈ ys, P y) : ∀ y ∈ xs ++ ys, P y := fun y hy => by
  rcases List.mem_append.mp hy with hy | hy
  · exact h y hy
  · exact t y hy
def due : D := .tup [.tup [.int 0, .int 1], .tup [.int 1, .int 1]]
def dueP : PyData := .tuple [.tuple [.int 0, .int 1], .tuple [.int 1, .int 1]]
theorem due_ok : SeqAt.shaped dueP = true := by decide +kernel
theorem eqx_of {S : Sto} {d : D} {p : PyData} {b : Bool} (h1 : pdOf S 60 d = some p) (h2 : SeqAt.shaped p = true) (h3 : PyData.eqv p dueP = b) : gEqX d due S = some (.bl b, S) := by
  have e : pdOf S 60 due = some dueP := rfl
  have g : gEqD false d due S = some (.bl b, S) := by
    unfold gEqD
    rw [h1, e]
    simp only [h2, due_ok, Bool.and_self, if_true, Bool.false_eq_true, if_false, h3]
  unfold gEqX orG
  rw [g]
def good (S : Sto) (d : D) : Prop := ∃ q : Bool, F_is_interval [d] S = some (.val (.bl q) S) ∧ gEqX d due S = some (.bl q, S)
theorem int_no {d : D} {n : String} {S : Sto} (h : tyD S d = some n) (hk : tyK n = true) (hn : n ≠ "tuple") : F_is_interval [d] S = some (.val (.bl false) S) := by
  unfold F_is_interval m_is_interval
  refine fn_ret (seq_ret (if_t (v_or_t (v_T (v_op (v_bi (v_cons (v_var rfl) v_nil) (gty h)) v_ret ?_))) (ret_eq v_ret)))
  rw [ne_ty hk (by decide), decide_eq_false hn]
  rfl
theorem int_len {xs : List D} {S : Sto} (h : xs.length ≠ 2) : F_is_interval [.tup xs] S = some (.val (.bl false) S) := by
  unfold F_is_interval m_is_interval
  refine fn_ret (seq_ret (if_t (v_or_f (v_T (v_op (v_bi (v_cons (v_var rfl) v_nil) (gty rfl)) v_ret (by rw [ne_ty (by decide) (by decide)]; rfl))) (v_T (v_op (v_bi (v_cons (v_var rfl) v_nil) len_tup) v_ret ?_))) (ret_eq v_ret)))
  rw [ne_ii, decide_eq_false (by omega)]
  rfl
theorem int_pair {x y : D} {S : Sto} {r : Option RS} (k : sRet (mAndV (mCall F_is_number (mCons (mVar 1) mNil)) (mAndV (mCall F_is_number (mCons (mVar 2) mNil)) (mOp gLe (mCall F_compare (mCons (mVar 1) (mCons (mVar 2) mNil))) (mRet (.int 0))))) [some (.tup [x, y]), some x, some y] S = r) :
    m_is_interval [some (.tup [x, y]), none, none] S = r := by
  unfold m_is_interval
  refine seq_nx (skip (v_or_f (v_T (v_op (v_bi (v_cons (v_var rfl) v_nil) (gty rfl)) v_ret (by rw [ne_ty (by decide) (by decide)]; rfl))) (v_T (v_op (v_bi (v_cons (v_var rfl) v_nil) len_tup) v_ret (by rw [ne_ii]; rfl))))) ?_
  exact seq_nx (ρ' := [some (.tup [x, y]), some x, some y]) (S' := S) rfl k
theorem int_no1 {x y : D} {S : Sto} (h : F_is_number [x] S = some (.val (.bl false) S)) : F_is_interval [.tup [x, y]] S = some (.val (.bl false) S) := by
  unfold F_is_interval
  exact fn_ret (int_pair (ret_eq (andV_f (v_call (v_cons (v_var rfl) v_nil) h))))
theorem int_no2 {x y : D} {S : Sto} (h : F_is_number [x] S = some (.val (.bl true) S)) (h2 : F_is_number [y] S = some (.val (.bl false) S)) : F_is_interval [.tup [x, y]] S = some (.val (.bl false) S) := by
  unfold F_is_interval
  exact fn_ret (int_pair (ret_eq (andV_t (v_call (v_cons (v_var rfl) v_nil) h) (andV_f (v_call (v_cons (v_var rfl) v_nil) h2)))))
theorem num_q (q : Rat) (S : Sto) : F_is_number [nq q] S = some (.val (.bl true) S) := by
  have e := num_pair (S := S) (ok_int q.num) (ok_int (q.den : Int))
  have g : gz2 (.int q.num) (.int (q.den : Int)) = true := by
    show gz q.num (q.den : Int) = true
    unfold gz
    have := q.den_pos
    have r := q.reduced
    rw [decide_eq_true (by omega), Int.natAbs_natCast, r]
    rfl
  rw [g] at e
  exact e
theorem int_q {n : Nat} {x y : Rat} (hx : sz n x) (hy : sz n y) (S : Sto) (h0 : 0 < n := by omega) (hn : n ≤ 4000 := by omega) : F_is_interval [.tup [nq x, nq y]] S = some (.val (.bl (!decide (y < x))) S) := by
  unfold F_is_interval
  refine fn_ret (int_pair (ret_eq (andV_t (v_call (v_cons (v_var rfl) v_nil) (num_q x S)) (andV_t (v_call (v_cons (v_var rfl) v_nil) (num_q y S)) ?_))))
  refine v_op (v_call (v_cons (v_var rfl) (v_cons (v_var rfl) v_nil)) (e_compare hx hy S)) v_ret ?_
  by_cases c : x < y
  · have c1 : ¬ y < x := fun z => by grind
    rw [if_pos c, decide_eq_false c1]
    rfl
  · rw [if_neg c]
    by_cases c1 : y < x
    · rw [if_pos c1, decide_eq_true c1]
      rfl
    · rw [if_neg c1, decide_eq_false c1]
      rfl
theorem g_non {S : Sto} : good S .non := ⟨false, int_no (n := "NoneType") rfl (by decide) (by decide), eqx_of rfl (by decide +kernel) (by decide +kernel)⟩
theorem g_bl {S : Sto} {b : Bool} : good S (.bl b) := ⟨false, int_no (n := "bool") rfl (by decide) (by decide), by cases b <;> exact eqx_of rfl (by decide +kernel) (by decide +kernel)⟩
theorem g_int {S : Sto} {b : Int} (h : SeqAt.shaped (.int b) = true := by decide +kernel) (h2 : PyData.eqv (.int b) dueP = false := by decide +kernel) : good S (.int b) := ⟨false, int_no (n := "int") rfl (by decide) (by decide), eqx_of rfl h h2⟩
theorem g_str {S : Sto} {b : Str} (h : SeqAt.shaped (.str b) = true := by decide +kernel) (h2 : PyData.eqv (.str b) dueP = false := by decide +kernel) : good S (.str b) := ⟨false, int_no (n := "str") rfl (by decide) (by decide), eqx_of rfl h h2⟩
theorem g_lst {S : Sto} {i : Nat} {xs : List D} {p : PyData} (h : S[i]? = some (.lst xs)) (hp : (pdMap (pdOf S 59) xs).map PyData.list = some p) (h1 : SeqAt.shaped p = true) (h2 : PyData.eqv p dueP = false) : good S (.ref i) := ⟨false, int_no (ty_lst h) (by decide) (by decide), eqx_of (p := p) (by unfold pdOf; simp only [h]; exact hp) h1 h2⟩
theorem g_dct {S : Sto} {i : Nat} {xs} (h : S[i]? = some (.dct xs)) : good S (.ref i) := ⟨false, int_no (n := "dict") (by unfold tyD; simp only [h]) (by decide) (by decide), by
  have e : gEqD false (.ref i) due S = none := by
    unfold gEqD
    have : pdOf S 60 (.ref i) = none := by unfold pdOf; simp only [h]
    rw [this]
  unfold gEqX orG
  rw [e]
  unfold gEqDT due
  simp only [h]⟩
theorem g_tup {S : Sto} {xs : List D} {p : PyData} (hp : pdOf S 60 (.tup xs) = some p) (h1 : SeqAt.shaped p = true) (h2 : PyData.eqv p dueP = false) (h : xs.length ≠ 2) : good S (.tup xs) := ⟨false, int_len h, eqx_of hp h1 h2⟩
theorem g_two {S : Sto} {x y : D} {n : String} {p : PyData} (hx : tyD S x = some n) (hk : tyK n = true) (hn : n ≠ "tuple") (hp : pdOf S 60 (.tup [x, y]) = some p) (h1 : SeqAt.shaped p = true) (h2 : PyData.eqv p dueP = false) : good S (.tup [x, y]) := ⟨false, int_no1 (num_no hx hk hn), eqx_of hp h1 h2⟩
theorem g_ii {S : Sto} {i : Int} {y : D} {p : PyData} (hp : pdOf S 60 (.tup [.int i, y]) = some p) (h1 : SeqAt.shaped p = true) (h2 : PyData.eqv p dueP = false) : good S (.tup [.int i, y]) := g_two (n := "int") rfl (by decide) (by decide) hp h1 h2
theorem sz01 : sz 2 (0 : Rat) := ⟨by show (0 : Int).natAbs < 2 ^ 2; decide, by show (1 : Int).natAbs < 2 ^ 2; decide⟩
theorem sz11 : sz 2 (1 : Rat) := ⟨by show (1 : Int).natAbs < 2 ^ 2; decide, by show (1 : Int).natAbs < 2 ^ 2; decide⟩
theorem g_due {S : Sto} : good S (.tup [.tup [.int 0, .int 1], .tup [.int 1, .int 1]]) := ⟨true, by
  have e := int_q sz01 sz11 S
  rw [decide_eq_false (by decide)] at e
  exact e, eqx_of (p := dueP) rfl due_ok (by decide +kernel)⟩
theorem g_eud {S : Sto} : good S (.tup [.tup [.int 1, .int 1], .tup [.int 0, .int 1]]) := ⟨false, by
  have e := int_q sz11 sz01 S
  rw [decide_eq_true (by decide)] at e
  exact e, eqx_of rfl (by decide +kernel) (by decide +kernel)⟩
theorem cat_rr {S : Sto} {i j : Nat} {xs ys : List D} (hi : S[i]? = some (.lst xs)) (hj : S[j]? = some (.lst ys)) (h : xs.length + ys.length ≤ 1000000) : gAdd (.ref i) (.ref j) S = some (.ref S.length, S ++ [.lst (xs ++ ys)]) := by
  have e : gCat (.ref i) (.ref j) S = some (.ref S.length, S ++ [.lst (xs ++ ys)]) := by
    unfold gCat
    simp only [hi, hj, if_pos h]
  exact e
theorem e_values (S : Sto) : ∃ (id : Nat) (xs : List D) (G : Sto), F__law_values [] S = some (.val (.ref id) (S ++ G)) ∧ (S ++ G)[id]? = some (.lst xs) ∧ xs.length = 24 ∧ ∀ G', ∀ x ∈ xs, good (S ++ G ++ G') x := by
  have L1 : ∀ ρ, mLst (mCons (mRet .non) (mCons (mRet (.bl true)) (mCons (mRet (.bl false)) (mCons (mRet (.int 0)) (mCons (mRet (.int 1)) (mCons (mRet (.str (PySem.Str.ofString ""))) (mCons (mRet (.str (PySem.Str.ofString "1"))) (mCons (mTup mNil) (mCons (mTup (mCons (mRet (.int 1)) mNil)) (mCons (mTup (mCons (mRet (.int 0)) (mCons (mRet (.int 0)) mNil))) (mCons (mTup (mCons (mRet (.int 1)) (mCons (mRet (.int 0)) mNil))) (mCons (mTup (mCons (mRet (.int 2)) (mCons (mRet (.int 4)) mNil))) (mCons (mTup (mCons (mUn gNeg (mRet (.int 3))) (mCons (mRet (.int 6)) mNil))) (mCons (mTup (mCons (mRet (.int 1)) (mCons (mUn gNeg (mRet (.int 1))) mNil))) (mCons (mTup (mCons (mRet (.bl true)) (mCons (mRet (.int 1)) mNil))) (mCons (mTup (mCons (mRet (.int 1)) (mCons (mRet (.bl true)) mNil))) mNil)))))))))))))))) ρ S
      = some (.val (.ref S.length) (S ++ [.lst [.non, .bl true, .bl false, .int 0, .int 1, .str (PySem.Str.ofString ""), .str (PySem.Str.ofString "1"), .tup [], .tup [.int 1], .tup [.int 0, .int 0], .tup [.int 1, .int 0], .tup [.int 2, .int 4], .tup [.int (-3), .int 6], .tup [.int 1, .int (-1)], .tup [.bl true, .int 1], .tup [.int 1, .bl true]]])) := fun ρ => rfl
  generalize hf : [D.non, .bl true, .bl false, .int 0, .int 1, .str (PySem.Str.ofString ""), .str (PySem.Str.ofString "1"), .tup [], .tup [.int 1], .tup [.int 0, .int 0], .tup [.int 1, .int 0], .tup [.int 2, .int 4], .tup [.int (-3), .int 6], .tup [.int 1, .int (-1)], .tup [.bl true, .int 1], .tup [.int 1, .bl true]] = found at L1
  have lf : found.length = 16 := by rw [← hf]; rfl
  have gf : ∀ S' : Sto, ∀ x ∈ found, good S' x := fun S' => by
    rw [← hf]
    exact all_cons g_non (all_cons g_bl (all_cons g_bl (all_cons g_int (all_cons g_int (all_cons g_str (all_cons g_str (all_cons (g_tup rfl (by decide +kernel) (by decide +kernel) (by decide)) (all_cons (g_tup rfl (by decide +kernel) (by decide +kernel) (by decide)) (all_cons (g_ii rfl (by decide +kernel) (by decide +kernel)) (all_cons (g_ii rfl (by decide +kernel) (by decide +kernel)) (all_cons (g_ii rfl (by decide +kernel) (by decide +kernel)) (all_cons (g_ii rfl (by decide +kernel) (by decide +kernel)) (all_cons (g_ii rfl (by decide +kernel) (by decide +kernel)) (all_cons (g_two (n := "bool") rfl (by decide) (by decide) rfl (by decide +kernel) (by decide +kernel)) (all_cons (g_ii rfl (by decide +kernel) (by decide +kernel)) (fun x h => nomatch h))))))))))))))))
  generalize hS1 : S ++ [O.lst found] = S1 at L1
  have h1 : S1[S.length]? = some (.lst found) := by rw [← hS1]; exact nth_last
  -- the second list
  have i1 : ∀ ρ, mLst (mCons (mRet (.int 1)) (mCons (mRet (.int 2)) mNil)) ρ S1 = some (.val (.ref S1.length) (S1 ++ [.lst [.int 1, .int 2]])) := fun ρ => v_lst (v_cons v_ret (v_cons v_ret v_nil)) two_le
  generalize hS2 : S1 ++ [O.lst [.int 1, .int 2]] = S2 at i1
  have i2 : ∀ ρ, mLst mNil ρ S2 = some (.val (.ref S2.length) (S2 ++ [.lst []])) := fun ρ => v_lst v_nil (by show 0 ≤ 1000; decide)
  generalize hS3 : S2 ++ [O.lst []] = S3 at i2
  have i3 : ∀ ρ, mDct0 ρ S3 = some (.val (.ref S3.length) (S3 ++ [.dct []])) := fun ρ => rfl
  generalize hS4 : S3 ++ [O.dct []] = S4 at i3
  have c : ∀ {ρ : Rf.Env} {S' : Sto} {a b : D}, mTup (mCons (mRet a) (mCons (mRet b) mNil)) ρ S' = some (.val (.tup [a, b]) S') := fun {ρ S' a b} => v_tup (v_cons v_ret (v_cons v_ret v_nil)) two_le
  have cc : ∀ {ρ : Rf.Env} {S' : Sto} {a b : D} {m1 m2 : M D}, m1 ρ S' = some (.val a S') → m2 ρ S' = some (.val b S') → mTup (mCons m1 (mCons m2 mNil)) ρ S' = some (.val (.tup [a, b]) S') := fun {ρ S' a b m1 m2} e1 e2 => v_tup (v_cons e1 (v_cons e2 v_nil)) two_le
  generalize hρ : [some (D.ref S.length)] = ρ
  have L2 := v_lst (ρ := ρ) (v_cons (c (S' := S1) (a := .str (PySem.Str.ofString "1")) (b := .str (PySem.Str.ofString "2"))) (v_cons (v_tup (v_cons (v_ret (a := D.int 1)) (v_cons (v_ret (a := D.int 2)) (v_cons (v_ret (a := D.int 3)) v_nil))) (by show 3 ≤ 1000; decide)) (v_cons (i1 ρ) (v_cons (cc (c (a := .int 0) (b := .int 1)) (c (a := .int 1) (b := .int 1))) (v_cons (cc (c (a := .int 1) (b := .int 1)) (c (a := .int 0) (b := .int 1))) (v_cons (i2 ρ) (v_cons (v_tup (v_cons (c (a := .int 0) (b := .int 1)) v_nil) (by show 1 ≤ 1000; decide)) (v_cons (i3 ρ) v_nil)))))))) (by show 8 ≤ 1000; decide)
  have k2 : S2[S1.length]? = some (.lst [.int 1, .int 2]) := by rw [← hS2]; exact nth_last
  have k3 : S3[S2.length]? = some (.lst []) := by rw [← hS3]; exact nth_last
  have k4 : S4[S3.length]? = some (.dct []) := by rw [← hS4]; exact nth_last
  have k2' : S4[S1.length]? = some (.lst [.int 1, .int 2]) := by rw [← hS4, ← hS3]; exact get_app (get_app k2)
  have k3' : S4[S2.length]? = some (.lst []) := by rw [← hS4]; exact get_app k3
  have k1' : S4[S.length]? = some (.lst found) := by rw [← hS4, ← hS3, ← hS2]; exact get_app (get_app (get_app h1))
  generalize hg : [D.tup [.str (PySem.Str.ofString "1"), .str (PySem.Str.ofString "2")], .tup [.int 1, .int 2, .int 3], .ref S1.length, .tup [.tup [.int 0, .int 1], .tup [.int 1, .int 1]], .tup [.tup [.int 1, .int 1], .tup [.int 0, .int 1]], .ref S2.length, .tup [.tup [.int 0, .int 1]], .ref S3.length] = more at L2
  have lg : more.length = 8 := by rw [← hg]; rfl
  have gg : ∀ G' : Sto, ∀ x ∈ more, good (S4 ++ G') x := fun G' => by
    rw [← hg]
    exact all_cons (g_two (n := "str") rfl (by decide) (by decide) rfl (by decide +kernel) (by decide +kernel)) (all_cons (g_tup rfl (by decide +kernel) (by decide +kernel) (by decide)) (all_cons (g_lst (get_app k2') rfl (by decide +kernel) (by decide +kernel)) (all_cons g_due (all_cons g_eud (all_cons (g_lst (get_app k3') rfl (by decide +kernel) (by decide +kernel)) (all_cons (g_tup rfl (by decide +kernel) (by decide +kernel) (by decide)) (all_cons (g_dct (get_app k4)) (fun x h => nomatch h))))))))
  have cat := cat_rr (S := S4 ++ [O.lst more]) (get_app (G := [O.lst more]) k1') nth_last (by rw [lf, lg]; decide)
  refine ⟨(S4 ++ [O.lst more]).length, found ++ more, [O.lst found, O.lst [.int 1, .int 2], O.lst [], O.dct [], O.lst more, O.lst (found ++ more)], ?_, ?_, ?_, ?_⟩
  · have fin : F__law_values [] S = some (.val (.ref (S4 ++ [O.lst more]).length) (S4 ++ [O.lst more] ++ [O.lst (found ++ more)])) := by
      unfold F__law_values m__law_values
      refine fn_ret ?_
      refine seq_nx (set_eq (L1 _)) ?_
      show sRet _ [some (D.ref S.length)] S1 = _
      rw [hρ]
      exact ret_eq (v_op (v_var (by rw [← hρ]; rfl)) L2 cat)
    rw [fin, ← hS4, ← hS3, ← hS2, ← hS1]
    simp only [List.append_assoc, List.cons_append, List.nil_append]
  · have : S ++ [O.lst found, O.lst [.int 1, .int 2], O.lst [], O.dct [], O.lst more, O.lst (found ++ more)] = S4 ++ [O.lst more] ++ [O.lst (found ++ more)] := by
      rw [← hS4, ← hS3, ← hS2, ← hS1]
      simp only [List.append_assoc, List.cons_append, List.nil_append]
    rw [this]
    exact nth_last
  · rw [List.length_append, lf, lg]
  · intro G'
    have : S ++ [O.lst found, O.lst [.int 1, .int 2], O.lst [], O.dct [], O.lst more, O.lst (found ++ more)] ++ G' = S4 ++ ([O.lst more] ++ [O.lst (found ++ more)] ++ G') := by
      rw [← hS4, ← hS3, ← hS2, ← hS1]
      simp only [List.append_assoc, List.cons_append, List.nil_append]
    rw [this]
    exact all_app (gf _) (gg _)
theorem sl_ref {ρ : Rf.Env} {S : Sto} {m ml mh : M D} {id : Nat} {i j : Int} {xs : List D} (hm : m ρ S = some (.val (.ref id) S)) (hl : ml ρ S = some (.val (.int i) S)) (hh : mh ρ S = some (.val (.int j) S)) (h : S[id]? = some (.lst xs)) : mSl m ml mh ρ S = some (.val (.ref S.length) (S ++ [.lst (Rf.cutD xs (some i) (some j))])) := by
  have e : lstOf S (.ref id) = some xs := by
    unfold lstOf
    simp only [h]
  unfold mSl mB
  simp only [hm, hl, hh, e]
end Gn
namespace Gn
open PySem PySem.Spec PyProof.Rows L2 Rf
theorem pow_1060 {S : Sto} : gPow (.int 10) (.int 60) S = some (.int 1000000000000000000000000000000000000000000000000000000000000, S) := by
  unfold gPow gI
  simp
theorem turn2 {S : Sto} {d : D} (h : good S d) (x0 x1 x2 x3 x4 x6 x7 : Option D) : L2_law [x0, x1, x2, x3, x4, some d, x6, x7] S = some (.nx [x0, x1, x2, x3, x4, some d, x6, x7] S) := by
  obtain ⟨q, h1, h2⟩ := h
  unfold L2_law
  exact skip (v_not (k := true) (v_tru (v_call (v_cons (v_call (v_cons (v_var rfl) v_nil) h1) (v_cons (v_op (v_var rfl) (v_pair (v_pair v_ret v_ret) (v_pair v_ret v_ret)) h2) v_nil)) (e_is_bool q S)) rfl))
theorem turn0 {S : Sto} {d : D} (h : F_is_interval [d] S = some (.val (.bl false) S)) (x0 x1 x2 x3 x4 x6 x7 : Option D) : L0_law [x0, x1, x2, x3, x4, some d, x6, x7] S = some (.nx [x0, x1, x2, x3, x4, some d, x6, x7] S) := by
  unfold L0_law
  exact skip (v_T (v_op (v_call (v_cons (v_var rfl) v_nil) h) v_ret rfl))
theorem gz_two {n d : Int} : gz (2 * n) (2 * d) = false := by
  unfold gz
  rw [Int.natAbs_mul, Int.natAbs_mul, Nat.gcd_mul_left]
  have : ¬ (((Int.natAbs 2 * Nat.gcd n.natAbs d.natAbs : Nat) : Int) = 1) := by
    have : Int.natAbs 2 = 2 := rfl
    rw [this]
    omega
  rw [decide_eq_false this, Bool.and_false]
theorem gz_neg {n d : Int} (h : 0 < d) : gz n (-d) = false := by
  unfold gz
  rw [decide_eq_false (by omega), Bool.false_and]
theorem four (ns : List Int) {dr k : Nat} {new : List Int} {S : Sto} (hr : S[dr]? = some (.lst (new.map D.int))) (hl : new.length = 9) (hk : k < 4) (x3 x4 x5 x6 x7 : Option D) : ∃ (y3 y4 y5 : Option D) (G : Sto),
    L1_law [some (.fro (ns.map D.int)), some (.ref dr), some (.int (k : Int)), x3, x4, x5, x6, x7] S = some (.nx [some (.fro (ns.map D.int)), some (.ref dr), some (.int (k : Int)), y3, y4, y5, x6, x7] (S ++ G)) := by
  have item : ∀ j : Nat, j < 9 → ∃ r : Int, gIx (.ref dr) (.int (j : Int)) S = some (.int r, S) := fun j hj =>
    ⟨new[j], ixR (xs := new.map D.int) hr (by rw [List.getElem?_map, List.getElem?_eq_getElem (by omega)]; rfl)⟩
  obtain ⟨r1, i1⟩ := item (2 * k) (by omega)
  obtain ⟨r2, i2⟩ := item (2 * k + 1) (by omega)
  obtain ⟨r8, i8⟩ := item 8 (by omega)
  have m2 : mulOk 2 (k : Int) = true := mulOk_l (by decide)
  have g1 : ∀ S' : Sto, gMul (.int 2) (.int (k : Int)) S' = some (.int ((2 * k : Nat) : Int), S') := fun S' => by
    rw [mul_ii m2]
    congr 3
  have g2 : ∀ S' : Sto, gAdd (.int ((2 * k : Nat) : Int)) (.int 1) S' = some (.int ((2 * k + 1 : Nat) : Int), S') := fun S' => rfl
  obtain ⟨x, sx, eX⟩ := e_any_number r1 r2 S
  obtain ⟨y0, sy0, eY⟩ := e_any_number r2 r1 S
  have dv : divOk r8 ((k : Int) + 1) = true := divOk_lit (by omega) (by omega)
  have second : ∃ y : Rat, sz 160 y ∧ sIf (mT (mOp gEq (mOp gMod (mOp gDiv (mOp gIx (mVar 1) (mRet (.int 8))) (mOp gAdd (mVar 2) (mRet (.int 1)))) (mRet (.int 3))) (mRet (.int 1)))) (sSet 4 (mVar 3)) sNil [some (.fro (ns.map D.int)), some (.ref dr), some (.int (k : Int)), some (nq x), some (nq y0), x5, x6, x7] S = some (.nx [some (.fro (ns.map D.int)), some (.ref dr), some (.int (k : Int)), some (nq x), some (nq y), x5, x6, x7] S) := by
    have t : mT (mOp gEq (mOp gMod (mOp gDiv (mOp gIx (mVar 1) (mRet (.int 8))) (mOp gAdd (mVar 2) (mRet (.int 1)))) (mRet (.int 3))) (mRet (.int 1))) [some (.fro (ns.map D.int)), some (.ref dr), some (.int (k : Int)), some (nq x), some (nq y0), x5, x6, x7] S = some (.val (decide ((r8.fdiv ((k : Int) + 1)).fmod 3 = 1)) S) :=
      v_T (v_op (v_op (v_op (v_op (v_var rfl) v_ret i8) (v_op (v_var rfl) v_ret add_ii) (div_ii dv)) v_ret (mod_ii (by decide))) v_ret eq_ii)
    by_cases c : (r8.fdiv ((k : Int) + 1)).fmod 3 = 1
    · rw [decide_eq_true c] at t
      exact ⟨x, sx, if_t t (set_eq (v_var rfl))⟩
    · rw [decide_eq_false c] at t
      exact ⟨y0, sy0, skip t⟩
  obtain ⟨y, sy, eS⟩ := second
  have eI := int_q sx sy S
  have eL := e_law_less sy sx S
  generalize hρ : [some (D.fro (ns.map D.int)), some (D.ref dr), some (D.int (k : Int)), some (nq x), some (nq y), x5, x6, x7] = ρ
  have v3 : ∀ S', mVar 3 ρ S' = some (.val (nq x) S') := fun S' => v_var (by rw [← hρ]; rfl)
  have v4 : ∀ S', mVar 4 ρ S' = some (.val (nq y) S') := fun S' => v_var (by rw [← hρ]; rfl)
  have chk := skip (x := sRet (mRet (.bl false))) (v_not (k := true) (v_tru (v_call (v_cons (v_call (v_cons (v_pair (v3 S) (v4 S)) v_nil) eI) (v_cons (v_notV (v_call (v_cons (v4 S) (v_cons (v3 S) v_nil)) eL)) v_nil)) (e_is_bool _ S)) rfl))
  have inner : mLst (mCons (mVar 3) (mCons (mVar 4) mNil)) ρ S = some (.val (.ref S.length) (S ++ [.lst [nq x, nq y]])) := v_lst (v_cons (v3 S) (v_cons (v4 S) v_nil)) two_le
  generalize hS1 : S ++ [O.lst [nq x, nq y]] = S1 at inner
  have hin : S1[S.length]? = some (.lst [nq x, nq y]) := by rw [← hS1]; exact nth_last
  have p1 : mulOk 2 x.num = true := mulOk_l (by decide)
  have p2 : mulOk 2 (x.den : Int) = true := mulOk_l (by decide)
  have items := v_lst (v_cons inner (v_cons (v_tup (v_cons (v3 S1) v_nil) (by show 1 ≤ 1000; decide)) (v_cons (v_tup (v_cons (v3 S1) (v_cons (v4 S1) (v_cons (v4 S1) v_nil))) (by show 3 ≤ 1000; decide)) (v_cons (v_pair (v3 S1) (v_ret (a := D.int 3)))
    (v_cons (v_pair (v_pair (v_op v_ret (v_op (v3 S1) v_ret (ix_n x S1)) (mul_ii p1)) (v_op v_ret (v_op (v3 S1) v_ret (ix_d x S1)) (mul_ii p2))) (v_pair (v_op v_ret v_ret pow_1060) (v_ret (a := D.int 1))))
    (v_cons (v_pair (v_pair (v_un (v_op v_ret v_ret pow_1060) neg_i) (v_ret (a := D.int 1))) (v_pair (v_op (v3 S1) v_ret (ix_n x S1)) (v_un (v_op (v3 S1) v_ret (ix_d x S1)) neg_i)))
    (v_cons (v_pair (v_ret (a := D.non)) (v4 S1)) v_nil))))))) (by show 7 ≤ 1000; decide)
  have lp := seq_of items nth_last
  generalize hxs : [D.ref S.length, .tup [nq x], .tup [nq x, nq y, nq y], .tup [nq x, .int 3], .tup [.tup [.int (2 * x.num), .int (2 * (x.den : Int))], .tup [.int 1000000000000000000000000000000000000000000000000000000000000, .int 1]], .tup [.tup [.int (-1000000000000000000000000000000000000000000000000000000000000), .int 1], .tup [.int x.num, .int (-(x.den : Int))]], .tup [.non, nq y]] = xs at *
  generalize hid : S1.length = id at *
  have hS2 : (S1 ++ [O.lst xs])[id]? = some (.lst xs) := by rw [← hid]; exact nth_last
  have big : gz (-1000000000000000000000000000000000000000000000000000000000000) 1 = true := by decide +kernel
  have dpos : 0 < (x.den : Int) := by have := x.den_pos; omega
  have allE : ∀ z ∈ xs, F_is_interval [z] (S1 ++ [O.lst xs]) = some (.val (.bl false) (S1 ++ [O.lst xs])) := by
    have hin2 : tyD (S1 ++ [O.lst xs]) (.ref S.length) = some "list" := ty_lst (get_app hin)
    intro z hz
    rw [← hxs] at hz
    rcases List.mem_cons.mp hz with rfl | hz
    · exact int_no hin2 (by decide) (by decide)
    rcases List.mem_cons.mp hz with rfl | hz
    · exact int_len (by show 1 ≠ 2; decide)
    rcases List.mem_cons.mp hz with rfl | hz
    · exact int_len (by show 3 ≠ 2; decide)
    rcases List.mem_cons.mp hz with rfl | hz
    · exact int_no2 (num_q x _) (num_no (n := "int") rfl (by decide) (by decide))
    rcases List.mem_cons.mp hz with rfl | hz
    · refine int_no1 ?_
      have e := num_pair (S := S1 ++ [O.lst xs]) (ok_int (2 * x.num)) (ok_int (2 * (x.den : Int)))
      rw [show gz2 (.int (2 * x.num)) (.int (2 * (x.den : Int))) = false from gz_two] at e
      exact e
    rcases List.mem_cons.mp hz with rfl | hz
    · refine int_no2 ?_ ?_
      · have e := num_pair (S := S1 ++ [O.lst xs]) (ok_int (-1000000000000000000000000000000000000000000000000000000000000)) (ok_int 1)
        rw [show gz2 (.int (-1000000000000000000000000000000000000000000000000000000000000)) (.int 1) = true from big] at e
        exact e
      · have e := num_pair (S := S1 ++ [O.lst xs]) (ok_int x.num) (ok_int (-(x.den : Int)))
        rw [show gz2 (.int x.num) (.int (-(x.den : Int))) = false from gz_neg dpos] at e
        exact e
    rcases List.mem_cons.mp hz with rfl | hz
    · exact int_no1 (num_no (n := "NoneType") rfl (by decide) (by decide))
    · cases hz
  have hn : xs.length = 7 := by rw [← hxs]; rfl
  obtain ⟨ρ', eF, x5', hρ'⟩ := ref_all (t := tN 5) (b := L0_law) hS2 (fun ρ' => ∃ x5, ρ' = [some (D.fro (ns.map D.int)), some (D.ref dr), some (D.int (k : Int)), some (nq x), some (nq y), x5, x6, x7]) (fun z hz ρ' ⟨x5, e⟩ => by
    have eq := turn0 (allE z hz) (some (D.fro (ns.map D.int))) (some (D.ref dr)) (some (D.int (k : Int))) (some (nq x)) (some (nq y)) x6 x7
    subst e
    exact ⟨_, _, rfl, eq, _, rfl⟩) fuel 0 ρ ⟨x5, hρ.symm⟩ (by rw [hn]; exact lt_fuel (k := 10) (by decide) (by omega))
  subst hρ'
  refine ⟨some (nq x), some (nq y), x5', [O.lst [nq x, nq y], O.lst xs], ?_⟩
  unfold L1_law
  refine seq_nx (set_eq (v_call (v_cons (v_op (v_var rfl) (v_op v_ret (v_var rfl) (g1 S)) i1) (v_cons (v_op (v_var rfl) (v_op (v_op v_ret (v_var rfl) (g1 S)) v_ret (g2 S)) i2) v_nil)) eX)) ?_
  refine seq_nx (set_eq (v_call (v_cons (v_op (v_var rfl) (v_op (v_op v_ret (v_var rfl) (g1 S)) v_ret (g2 S)) i2) (v_cons (v_op (v_var rfl) (v_op v_ret (v_var rfl) (g1 S)) i1) v_nil)) eY)) ?_
  refine seq_nx eS ?_
  rw [hρ]
  refine seq_nx chk ?_
  refine (for_ref lp eF).trans ?_
  rw [← hS1, List.append_assoc]
  rfl
theorem fours (ns : List Int) {dr : Nat} {new : List Int} (hl : new.length = 9) (x6 x7 : Option D) : ∀ (n lo : Nat) (x2 x3 x4 x5 : Option D) (S : Sto), S[dr]? = some (.lst (new.map D.int)) → lo + n = 4 → ∃ (y2 y3 y4 y5 : Option D) (G : Sto),
    forI (tN 2) L1_law (rngD (lo : Int) n) [some (.fro (ns.map D.int)), some (.ref dr), x2, x3, x4, x5, x6, x7] S = some (.nx [some (.fro (ns.map D.int)), some (.ref dr), y2, y3, y4, y5, x6, x7] (S ++ G))
  | 0, lo, x2, x3, x4, x5, S, _, _ => ⟨x2, x3, x4, x5, [], by rw [List.append_nil]; rfl⟩
  | n + 1, lo, x2, x3, x4, x5, S, hr, h => by
    obtain ⟨y3, y4, y5, G, e1⟩ := four ns hr hl (k := lo) (by omega) x3 x4 x5 x6 x7
    obtain ⟨z2, z3, z4, z5, G', e2⟩ := fours ns hl x6 x7 n (lo + 1) (some (.int (lo : Int))) y3 y4 y5 (S ++ G) (get_app hr) (by omega)
    refine ⟨z2, z3, z4, z5, G ++ G', ?_⟩
    rw [rngD_succ]
    refine (forI_nx rfl e1).trans (e2.trans ?_)
    rw [List.append_assoc]
theorem law_true (ns : List Int) (_ : ns.length ≤ 63) : ∃ S', F_law [.fro (ns.map D.int)] [] = some (.val (.bl true) S') := by
  obtain ⟨c, ec⟩ := e_cell (ns := ns) (k := 0) []
  obtain ⟨new, nl, _, ed⟩ := e_draws c 9 [] (by decide)
  generalize hS1 : [] ++ [O.lst (new.map D.int)] = S1 at ed
  have hr : S1[0]? = some (.lst (new.map D.int)) := by rw [← hS1]; rfl
  obtain ⟨y2, y3, y4, y5, G, eF⟩ := fours ns (dr := 0) nl none none 4 0 none none none none S1 hr rfl
  generalize hS2 : S1 ++ G = S2 at eF
  have hr2 : S2[0]? = some (.lst (new.map D.int)) := by rw [← hS2]; exact get_app hr
  obtain ⟨id, xs, G3, eV, hV, lV, gV⟩ := e_values S2
  generalize hS3 : S2 ++ G3 = S3 at *
  have hr3 : S3[0]? = some (.lst (new.map D.int)) := by rw [← hS3]; exact get_app hr2
  have i0 : gIx (.ref 0) (.int ((8 : Nat) : Int)) S3 = some (.int new[8], S3) := ixR (xs := new.map D.int) hr3 (by rw [List.getElem?_map, List.getElem?_eq_getElem (by omega)]; rfl)
  have len : gLen [.ref id] S3 = some (.int ((xs.length : Nat) : Int), S3) := len_ref hV
  rw [lV] at len
  have md := mod_ii (i := new[8]) (j := ((24 : Nat) : Int)) (S := S3) (by decide)
  generalize new[8].fmod ((24 : Nat) : Int) = at' at md
  generalize hρ : [some (D.fro (ns.map D.int)), some (D.ref 0), y2, y3, y4, y5, some (D.ref id), some (D.int at')] = ρ
  have v6 : mVar 6 ρ S3 = some (.val (.ref id) S3) := v_var (by rw [← hρ]; rfl)
  have v7 : mVar 7 ρ S3 = some (.val (.int at') S3) := v_var (by rw [← hρ]; rfl)
  have sl := sl_ref v6 v7 (v_op v7 v_ret (add_ii (j := 8))) hV
  generalize hcut : Rf.cutD xs (some at') (some (at' + 8)) = cut at sl
  have sub : ∀ x ∈ cut, x ∈ xs := fun x hx => by
    rw [← hcut] at hx
    exact List.mem_of_mem_drop (List.mem_of_mem_take hx)
  have lc : cut.length ≤ 24 := by
    rw [← hcut]
    unfold Rf.cutD
    rw [List.length_take, List.length_drop]
    omega
  have lp := seq_of sl nth_last
  obtain ⟨ρ', eL, x5', hρ'⟩ := ref_all (t := tN 5) (b := L2_law) (S := S3 ++ [O.lst cut]) (xs := cut) nth_last (fun ρ' => ∃ x5, ρ' = [some (D.fro (ns.map D.int)), some (D.ref 0), y2, y3, y4, x5, some (D.ref id), some (D.int at')]) (fun x hx ρ' ⟨x5, e⟩ => by
    have eq := turn2 (gV [O.lst cut] x (sub x hx)) (some (D.fro (ns.map D.int))) (some (D.ref 0)) y2 y3 y4 (some (D.ref id)) (some (D.int at'))
    subst e
    exact ⟨_, _, rfl, eq, _, rfl⟩) fuel 0 ρ ⟨y5, hρ.symm⟩ (lt_fuel (k := 10) (by omega) (by omega))
  refine ⟨S3 ++ [O.lst cut], ?_⟩
  unfold F_law m_law
  refine fn_ret ?_
  refine seq_nx (set_eq (v_call (v_cons (v_call (v_cons (v_var rfl) (v_cons v_ret v_nil)) ec) (v_cons v_ret v_nil)) ed)) ?_
  refine seq_nx ((for_items (xs := rngD 0 4) (S1 := S1) (mRng1_eq (n := 4) (v_cons v_ret v_nil) (by decide)) (by rw [rngD_len]; exact lt_fuel (k := 3) (by decide) (by omega))).trans eF) ?_
  have val : mCall0 F__law_values [some (D.fro (ns.map D.int)), some (D.ref 0), y2, y3, y4, y5, none, none] S2 = some (.val (.ref id) S3) := by
    unfold mCall0
    rw [eV]
  refine seq_nx (set_eq val) ?_
  refine seq_nx (set_eq (v_op (v_op (v_var rfl) v_ret i0) (v_bi (v_cons (v_var rfl) v_nil) len) md)) ?_
  show sSeq _ _ [some (D.fro (ns.map D.int)), some (D.ref 0), y2, y3, y4, y5, some (D.ref id), some (D.int at')] S3 = _
  rw [hρ]
  exact seq_nx (for_ref lp eL) (ret_eq v_ret)
end Gn
namespace Gn
open PySem PySem.Spec PyProof.Rows L2 Rf
/-- what is promised of the law -/
def spLaw (K : PySem.W.Frag) : Sp := fun vs H Q _ => ∃ (a : Addr) (ns : List Int), vs = [.ref a] ∧ SqL K H a (ns.map V.int) ∧ ns.length ≤ 63 ∧ ∀ H', Q (.bl true) H'
theorem rels_ints {K : PySem.W.Frag} {φ : Nat → Addr} {n : Nat} {H : Hp} : ∀ ns : List Int, Rels K φ n H (ns.map V.int) (ns.map D.int)
  | [] => .nil
  | x :: r => .cons (.int x) (rels_ints r)
theorem law_sp {K : PySem.W.Frag} {ec : Str → Value} {F : List D → Sto → Option (R D)} (h : ∀ ns : List Int, ns.length ≤ 63 → ∃ S', F [.fro (ns.map D.int)] [] = some (.val (.bl true) S')) : ∀ vs H Q E, spLaw K vs H Q E → spF K ec 1 F vs H Q E := by
  intro vs H Q E hs
  obtain ⟨a, ns, rfl, hS, hl, q⟩ := hs
  obtain ⟨S', e⟩ := h ns hl
  refine ⟨fun _ => 0, [], [.fro (ns.map D.int)], ⟨fun i o z => by simp at z, fun i j z => absurd z (by simp)⟩, .cons (.fro ?_ (rels_ints ns)) .nil, rfl, _, e, fun φ' H' v ex ok r => ?_⟩
  · rcases hS with hS | hS
    · exact .inl ⟨hS, fun i z => absurd z (by simp)⟩
    · exact .inr hS
  · cases r
    exact q H'
theorem cx_none {P : Program} {w : World} {H : Hp} {s : Shared} {e : Value} {s' : Shared} (h : L2.CX P w [] H s (fun _ _ _ => False) e s') : False := by
  obtain ⟨_, _, _, _, _, _, _, _, _, _, _, _, z⟩ := h
  exact z
theorem all_mk {P : Program} {w : World} {K : PySem.W.Frag} {h : Heap} {mg : Str → Option Value} {fa : Addr} (X : K.In h) (G : h.Ns mainGlobals mg) (hfa : mg "law" = some (.ref fa))
    {f0 : Addr} {od0 an0 : Option Addr} {sl0 : Array (Option Value)} {oc0 kV0 dc0 pm0 cd0 ct0 : Value}
    (a0 : PySem.W.nsIn K mainGlobals "is_number" = some (some (.ref f0))) (l0 : K.lookup f0 = some ⟨oc0, od0, .func (PySem.W.fnOf "is_number" "is_number" (defArgs s_is_number) (defBody s_is_number) (defScope s_is_number) .none kV0 dc0 pm0 an0 cd0 ct0), sl0⟩) (c0 : PySem.W.codeIn K cd0 "is_number" = true) (k0 : PySem.W.keepIn K (.ref f0) = true)
    {f1 : Addr} {od1 an1 : Option Addr} {sl1 : Array (Option Value)} {oc1 kV1 dc1 pm1 cd1 ct1 : Value}
    (a1 : PySem.W.nsIn K mainGlobals "compare" = some (some (.ref f1))) (l1 : K.lookup f1 = some ⟨oc1, od1, .func (PySem.W.fnOf "compare" "compare" (defArgs s_compare) (defBody s_compare) (defScope s_compare) .none kV1 dc1 pm1 an1 cd1 ct1), sl1⟩) (c1 : PySem.W.codeIn K cd1 "compare" = true) (k1 : PySem.W.keepIn K (.ref f1) = true)
    {f2 : Addr} {od2 an2 : Option Addr} {sl2 : Array (Option Value)} {oc2 kV2 dc2 pm2 cd2 ct2 : Value}
    (a2 : PySem.W.nsIn K mainGlobals "is_interval" = some (some (.ref f2))) (l2 : K.lookup f2 = some ⟨oc2, od2, .func (PySem.W.fnOf "is_interval" "is_interval" (defArgs s_is_interval) (defBody s_is_interval) (defScope s_is_interval) .none kV2 dc2 pm2 an2 cd2 ct2), sl2⟩) (c2 : PySem.W.codeIn K cd2 "is_interval" = true) (k2 : PySem.W.keepIn K (.ref f2) = true)
    {f3 : Addr} {od3 an3 : Option Addr} {sl3 : Array (Option Value)} {oc3 kV3 dc3 pm3 cd3 ct3 : Value}
    (a3 : PySem.W.nsIn K mainGlobals "_law_cell" = some (some (.ref f3))) (l3 : K.lookup f3 = some ⟨oc3, od3, .func (PySem.W.fnOf "_law_cell" "_law_cell" (defArgs s__law_cell) (defBody s__law_cell) (defScope s__law_cell) .none kV3 dc3 pm3 an3 cd3 ct3), sl3⟩) (c3 : PySem.W.codeIn K cd3 "_law_cell" = true) (k3 : PySem.W.keepIn K (.ref f3) = true)
    {f4 : Addr} {od4 an4 : Option Addr} {sl4 : Array (Option Value)} {oc4 kV4 dc4 pm4 cd4 ct4 : Value}
    (a4 : PySem.W.nsIn K mainGlobals "_law_draws" = some (some (.ref f4))) (l4 : K.lookup f4 = some ⟨oc4, od4, .func (PySem.W.fnOf "_law_draws" "_law_draws" (defArgs s__law_draws) (defBody s__law_draws) (defScope s__law_draws) .none kV4 dc4 pm4 an4 cd4 ct4), sl4⟩) (c4 : PySem.W.codeIn K cd4 "_law_draws" = true) (k4 : PySem.W.keepIn K (.ref f4) = true)
    {f5 : Addr} {od5 an5 : Option Addr} {sl5 : Array (Option Value)} {oc5 kV5 dc5 pm5 cd5 ct5 : Value}
    (a5 : PySem.W.nsIn K mainGlobals "_law_is_bool" = some (some (.ref f5))) (l5 : K.lookup f5 = some ⟨oc5, od5, .func (PySem.W.fnOf "_law_is_bool" "_law_is_bool" (defArgs s__law_is_bool) (defBody s__law_is_bool) (defScope s__law_is_bool) .none kV5 dc5 pm5 an5 cd5 ct5), sl5⟩) (c5 : PySem.W.codeIn K cd5 "_law_is_bool" = true) (k5 : PySem.W.keepIn K (.ref f5) = true)
    {f6 : Addr} {od6 an6 : Option Addr} {sl6 : Array (Option Value)} {oc6 kV6 dc6 pm6 cd6 ct6 : Value}
    (a6 : PySem.W.nsIn K mainGlobals "_law_gcd" = some (some (.ref f6))) (l6 : K.lookup f6 = some ⟨oc6, od6, .func (PySem.W.fnOf "_law_gcd" "_law_gcd" (defArgs s__law_gcd) (defBody s__law_gcd) (defScope s__law_gcd) .none kV6 dc6 pm6 an6 cd6 ct6), sl6⟩) (c6 : PySem.W.codeIn K cd6 "_law_gcd" = true) (k6 : PySem.W.keepIn K (.ref f6) = true)
    {f7 : Addr} {od7 an7 : Option Addr} {sl7 : Array (Option Value)} {oc7 kV7 dc7 pm7 cd7 ct7 : Value}
    (a7 : PySem.W.nsIn K mainGlobals "_law_frac" = some (some (.ref f7))) (l7 : K.lookup f7 = some ⟨oc7, od7, .func (PySem.W.fnOf "_law_frac" "_law_frac" (defArgs s__law_frac) (defBody s__law_frac) (defScope s__law_frac) .none kV7 dc7 pm7 an7 cd7 ct7), sl7⟩) (c7 : PySem.W.codeIn K cd7 "_law_frac" = true) (k7 : PySem.W.keepIn K (.ref f7) = true)
    {f8 : Addr} {od8 an8 : Option Addr} {sl8 : Array (Option Value)} {oc8 kV8 dc8 pm8 cd8 ct8 : Value}
    (a8 : PySem.W.nsIn K mainGlobals "_law_less" = some (some (.ref f8))) (l8 : K.lookup f8 = some ⟨oc8, od8, .func (PySem.W.fnOf "_law_less" "_law_less" (defArgs s__law_less) (defBody s__law_less) (defScope s__law_less) .none kV8 dc8 pm8 an8 cd8 ct8), sl8⟩) (c8 : PySem.W.codeIn K cd8 "_law_less" = true) (k8 : PySem.W.keepIn K (.ref f8) = true)
    {f9 : Addr} {od9 an9 : Option Addr} {sl9 : Array (Option Value)} {oc9 kV9 dc9 pm9 cd9 ct9 : Value}
    (a9 : PySem.W.nsIn K mainGlobals "_law_any_number" = some (some (.ref f9))) (l9 : K.lookup f9 = some ⟨oc9, od9, .func (PySem.W.fnOf "_law_any_number" "_law_any_number" (defArgs s__law_any_number) (defBody s__law_any_number) (defScope s__law_any_number) .none kV9 dc9 pm9 an9 cd9 ct9), sl9⟩) (c9 : PySem.W.codeIn K cd9 "_law_any_number" = true) (k9 : PySem.W.keepIn K (.ref f9) = true)
    {f10 : Addr} {od10 an10 : Option Addr} {sl10 : Array (Option Value)} {oc10 kV10 dc10 pm10 cd10 ct10 : Value}
    (a10 : PySem.W.nsIn K mainGlobals "_law_values" = some (some (.ref f10))) (l10 : K.lookup f10 = some ⟨oc10, od10, .func (PySem.W.fnOf "_law_values" "_law_values" (defArgs s__law_values) (defBody s__law_values) (defScope s__law_values) .none kV10 dc10 pm10 an10 cd10 ct10), sl10⟩) (c10 : PySem.W.codeIn K cd10 "_law_values" = true) (k10 : PySem.W.keepIn K (.ref f10) = true)
    {f11 : Addr} {od11 an11 : Option Addr} {sl11 : Array (Option Value)} {oc11 kV11 dc11 pm11 cd11 ct11 : Value}
    (a11 : PySem.W.nsIn K mainGlobals "law" = some (some (.ref f11))) (l11 : K.lookup f11 = some ⟨oc11, od11, .func (PySem.W.fnOf "law" "law" (defArgs s_law) (defBody s_law) (defScope s_law) .none kV11 dc11 pm11 an11 cd11 ct11), sl11⟩) (c11 : PySem.W.codeIn K cd11 "law" = true) (k11 : PySem.W.keepIn K (.ref f11) = true)
    (z_abs : PySem.W.nsIn K mainGlobals "abs" = some none)
    (z_int : PySem.W.nsIn K mainGlobals "int" = some none)
    (z_len : PySem.W.nsIn K mainGlobals "len" = some none)
    (z_range : PySem.W.nsIn K mainGlobals "range" = some none)
    (z_tuple : PySem.W.nsIn K mainGlobals "tuple" = some none)
    (z_type : PySem.W.nsIn K mainGlobals "type" = some none)
    (z_gcd : PySem.W.nsIn K mainGlobals "gcd" = some (some (.builtin "math.gcd"))) :
    ∃ fd : FuncData, (∀ (s : Shared) (v : Value), BindsTo s fd ⟨[v], []⟩ [("script", v)]) ∧ ∀ base : Heap, K.In base → base.Ns mainGlobals mg → FnOk P w K mg base (L2.CX P w) 4 fa fd ["script"] (spLaw K) := by
  have e : fa = f11 := Value.ref.inj (Option.some.inj (hfa.symm.trans (PySem.W.mg_of X G a11)))
  subst e
  have T : Txt K mg ⟨f0, _, f1, _, f2, _, f3, _, f4, _, f5, _, f6, _, f7, _, f8, _, f9, _, f10, _, fa, _⟩ := { F_is_number := fun_mk (st := s_is_number) l0 c0 k0, b_is_number := (fun_mk (st := s_is_number) l0 c0 k0).binds (ps := ["value"]) (fun _ _ _ _ _ _ us hl => match us, hl with | [_], _ => rfl), g_is_number := PySem.W.mg_of X G a0, F_compare := fun_mk (st := s_compare) l1 c1 k1, b_compare := (fun_mk (st := s_compare) l1 c1 k1).binds (ps := ["x", "y"]) (fun _ _ _ _ _ _ us hl => match us, hl with | [_, _], _ => rfl), g_compare := PySem.W.mg_of X G a1, F_is_interval := fun_mk (st := s_is_interval) l2 c2 k2, b_is_interval := (fun_mk (st := s_is_interval) l2 c2 k2).binds (ps := ["value"]) (fun _ _ _ _ _ _ us hl => match us, hl with | [_], _ => rfl), g_is_interval := PySem.W.mg_of X G a2, F__law_cell := fun_mk (st := s__law_cell) l3 c3 k3, b__law_cell := (fun_mk (st := s__law_cell) l3 c3 k3).binds (ps := ["script", "k"]) (fun _ _ _ _ _ _ us hl => match us, hl with | [_, _], _ => rfl), g__law_cell := PySem.W.mg_of X G a3, F__law_draws := fun_mk (st := s__law_draws) l4 c4 k4, b__law_draws := (fun_mk (st := s__law_draws) l4 c4 k4).binds (ps := ["cell", "count"]) (fun _ _ _ _ _ _ us hl => match us, hl with | [_, _], _ => rfl), g__law_draws := PySem.W.mg_of X G a4, F__law_is_bool := fun_mk (st := s__law_is_bool) l5 c5 k5, b__law_is_bool := (fun_mk (st := s__law_is_bool) l5 c5 k5).binds (ps := ["x", "due"]) (fun _ _ _ _ _ _ us hl => match us, hl with | [_, _], _ => rfl), g__law_is_bool := PySem.W.mg_of X G a5, F__law_gcd := fun_mk (st := s__law_gcd) l6 c6 k6, b__law_gcd := (fun_mk (st := s__law_gcd) l6 c6 k6).binds (ps := ["a", "b"]) (fun _ _ _ _ _ _ us hl => match us, hl with | [_, _], _ => rfl), g__law_gcd := PySem.W.mg_of X G a6, F__law_frac := fun_mk (st := s__law_frac) l7 c7 k7, b__law_frac := (fun_mk (st := s__law_frac) l7 c7 k7).binds (ps := ["a", "b"]) (fun _ _ _ _ _ _ us hl => match us, hl with | [_, _], _ => rfl), g__law_frac := PySem.W.mg_of X G a7, F__law_less := fun_mk (st := s__law_less) l8 c8 k8, b__law_less := (fun_mk (st := s__law_less) l8 c8 k8).binds (ps := ["x", "y"]) (fun _ _ _ _ _ _ us hl => match us, hl with | [_, _], _ => rfl), g__law_less := PySem.W.mg_of X G a8, F__law_any_number := fun_mk (st := s__law_any_number) l9 c9 k9, b__law_any_number := (fun_mk (st := s__law_any_number) l9 c9 k9).binds (ps := ["draw", "more"]) (fun _ _ _ _ _ _ us hl => match us, hl with | [_, _], _ => rfl), g__law_any_number := PySem.W.mg_of X G a9, F__law_values := fun_mk (st := s__law_values) l10 c10 k10, b__law_values := (fun_mk (st := s__law_values) l10 c10 k10).binds (ps := []) (fun _ _ _ _ _ _ us hl => match us, hl with | [], _ => rfl), g__law_values := PySem.W.mg_of X G a10, F_law := fun_mk (st := s_law) l11 c11 k11, b_law := (fun_mk (st := s_law) l11 c11 k11).binds (ps := ["script"]) (fun _ _ _ _ _ _ us hl => match us, hl with | [_], _ => rfl), g_law := PySem.W.mg_of X G a11, z_abs := PySem.W.mg_none_of X G z_abs, z_int := PySem.W.mg_none_of X G z_int, z_len := PySem.W.mg_none_of X G z_len, z_range := PySem.W.mg_none_of X G z_range, z_tuple := PySem.W.mg_none_of X G z_tuple, z_type := PySem.W.mg_none_of X G z_type, z_gcd := PySem.W.mg_of X G z_gcd }
  exact ⟨_, fun s v => .of_eq rfl, fun base _ _ => (ok_law T).imp (law_sp law_true)⟩
end Gn
open PySem PySem.W PyProof.Rows
set_option maxHeartbeats 0 in
theorem PySem.Challenge.cw_rootfast_k05_intervals_told_holds : PySem.Challenge.rw_rootfast_k05_intervals_told.Holds := by
  w_on; o_law; k_head; (case hw => w_witness2)
  k_fill
  refine L2.walk_of (l := PySem.Challenge.rw_rootfast_k05_intervals_told) (n := 63) (k := 4) (x := "script") (CX := fun w => L2.CX PySem.Challenge.rw_rootfast_k05_intervals_told.prog w) (sp := fun w => Gn.spLaw _) rfl (by decide) rfl ⟨rfl, by decide, by decide⟩ (fun w h Y => PySem.W.kIn_of Y) ?F (fun _ _ a ns hl _ hS => ⟨a, ns, rfl, hS, hl, fun _ => rfl⟩) (fun _ _ _ _ _ h => Gn.cx_none h)
  case F =>
    intro w mg fa h KX G hmg
    refine' Gn.all_mk KX G hmg ?a0 ?l0 ?c0 ?k0 ?a1 ?l1 ?c1 ?k1 ?a2 ?l2 ?c2 ?k2 ?a3 ?l3 ?c3 ?k3 ?a4 ?l4 ?c4 ?k4 ?a5 ?l5 ?c5 ?k5 ?a6 ?l6 ?c6 ?k6 ?a7 ?l7 ?c7 ?k7 ?a8 ?l8 ?c8 ?k8 ?a9 ?l9 ?c9 ?k9 ?a10 ?l10 ?c10 ?k10 ?a11 ?l11 ?c11 ?k11 ?z_abs ?z_int ?z_len ?z_range ?z_tuple ?z_type ?z_gcd
    (case a0 => k_is); (case l0 => k_is); (case c0 => k_is); (case k0 => k_is); (case a1 => k_is); (case l1 => k_is); (case c1 => k_is); (case k1 => k_is); (case a2 => k_is); (case l2 => k_is); (case c2 => k_is); (case k2 => k_is); (case a3 => k_is); (case l3 => k_is); (case c3 => k_is); (case k3 => k_is); (case a4 => k_is); (case l4 => k_is); (case c4 => k_is); (case k4 => k_is); (case a5 => k_is); (case l5 => k_is); (case c5 => k_is); (case k5 => k_is); (case a6 => k_is); (case l6 => k_is); (case c6 => k_is); (case k6 => k_is); (case a7 => k_is); (case l7 => k_is); (case c7 => k_is); (case k7 => k_is); (case a8 => k_is); (case l8 => k_is); (case c8 => k_is); (case k8 => k_is); (case a9 => k_is); (case l9 => k_is); (case c9 => k_is); (case k9 => k_is); (case a10 => k_is); (case l10 => k_is); (case c10 => k_is); (case k10 => k_is); (case a11 => k_is); (case l11 => k_is); (case c11 => k_is); (case k11 => k_is); (case z_abs => k_is); (case z_int => k_is); (case z_len => k_is); (case z_range => k_is); (case z_tuple => k_is); (case z_type => k_is); (case z_gcd => k_is)
